/- IE IE2 IE3 IF. -/
import Derived.Test.YthehnlpgmkjefaaDoorGG
import Derived.Test.YthehnlpgmkjefaaDoorGE
/- The reference's roots of pairs: its paths. -/
namespace Go.Proofs.YthehnlpgmkjefaaDoor.fpn
open Go.RowKit Pl
set_option linter.unusedVariables false
set_option linter.unusedSimpArgs false
set_option maxRecDepth 4000

set_option maxHeartbeats 4000000 in
theorem sq0 (R : RefK) (x : F2) {h : F} (w : World) (hq : isq x.norm = false) (hh : finv 2 = h) : Calls Tryd.prog 55 #[PV x] w (Ret (.tuple #[PV 0, .bool false]) w) := by
  have hp0 := Heap.start w
  go_enter Tryd.func55, Tryd.ntmps55
  refine wp_seq_k (fun K1 k1 => ?_)
  refine gs [.alloc (PC x), .alloc (PC 0), .det (.bool false)] [0, 1, 2] [0, 0, 0] (fun L => [PV x, pt (L.b 0) 0, pt (L.b 1) 0, .bool false] ++ U 91) (fun L => [(L.b 0, PC x), (L.b 1, PC 0)]) hp0 ⟨
    oB, oZ rP, oA,
    trivial⟩ (fun L0 w1 hp1 => ?_)
  refine k1 _ _ ?_
  refine wp_seq_k (fun K2 k2 => ?_)
  refine gs [.det (FV 2), .det (.tuple #[FV h, .int .i64 0]), .det (.tuple #[FV h, .int .i64 0]), .det (FV h), .det (.int .i64 0), .alloc (FC 0), .store (.new 5) 0 (FC h) (FC h), .det (.int .i64 0)] [0, 1, 2, 3, 4, 5, 6, 7] [0, 1, 3, 7, 7, 0, 47, 127] (fun L => [PV x, pt (L0.b 0) 0, pt (L0.b 1) 0, .bool false, pt (L.b 5) 0, .int .i64 0, undef, undef, undef, undef, undef, undef, undef, undef, undef, undef, .tuple #[FV h, .int .i64 0], FV 2, .tuple #[FV h, .int .i64 0], FV h, .int .i64 0] ++ U 74) (fun L => [((L0.b 0), PC x), ((L0.b 1), PC 0), (L.b 5, FC h)]) hp1 ⟨
    oR R.of2, oH (v := .tuple #[FV h, .int .i64 0]) (vs := #[FV 2]) (fun w _ _ => by have e := R.inv 2 w trivial two_ne; rw [hh] at e; exact e), oM, oX, oX, oZ rF,
    oT rF, oA,
    trivial⟩ (fun L1 w2 hp2 => ?_)
  refine k2 _ _ ?_
  refine wp_seq_k (fun K3 k3 => ?_)
  refine dr [.det (pt (L0.b 0) 0), .det (FV x.c0), .det (pt (L0.b 0) 0), .det (FV x.c0), .det (FV (x.c0 * x.c0)), .det (pt (L0.b 0) 6), .det (FV x.c1), .det (pt (L0.b 0) 6), .det (FV x.c1), .det (FV (x.c1 * x.c1)), .det (FV x.norm), .det (.tuple #[FV (root x.norm), .bool false]), .det (.tuple #[FV (root x.norm), .bool false]), .det (FV (root x.norm)), .det (.bool false), .alloc (FC 0), .store (.new 15) 0 (FC (root x.norm)) (FC (root x.norm)), .det (.bool false)] [0, 1, 2, 3, 4, 5, 6, 7, 8, 9, 10, 11, 12, 13, 14, 15, 16, 17] [0, 1, 0, 4, 15, 0, 32, 0, 128, 511, 1023, 2047, 4095, 8191, 8191, 0, 49151, 131071] (fun L => [PV x, pt (L0.b 0) 0, pt (L0.b 1) 0, .bool false, pt (L1.b 5) 0, .int .i64 0, pt (L.b 15) 0, .bool false, undef, undef, undef, undef, undef, undef, undef, undef, .tuple #[FV h, .int .i64 0], FV 2, .tuple #[FV h, .int .i64 0], FV h, .int .i64 0, .tuple #[FV (root x.norm), .bool false], pt (L0.b 0) 0, FV x.c0, pt (L0.b 0) 0, FV x.c0, FV (x.c0 * x.c0), pt (L0.b 0) 6, FV x.c1, pt (L0.b 0) 6, FV x.c1, FV (x.c1 * x.c1), FV x.norm, .tuple #[FV (root x.norm), .bool false], FV (root x.norm), .bool false] ++ U 59) (fun L => [((L0.b 0), PC x), ((L0.b 1), PC 0), ((L1.b 5), FC h), (L.b 15, FC (root x.norm))]) hp2 ⟨
    oI aP, oL 0 0 rF, oI aP, oL 0 0 rF, oR (fun w => R.mul x.c0 x.c0 w trivial), oI aP, oL 0 6 rF, oI aP, oL 0 6 rF, oR (fun w => R.mul x.c1 x.c1 w trivial), oR (fun w => R.add (x.c0 * x.c0) (x.c1 * x.c1) w trivial),
    oH (v := .tuple #[FV (root x.norm), .bool false]) (vs := #[FV x.norm]) (fun w _ _ => by have e := R.sqrt x.norm w trivial; rw [hq] at e; exact e), oM, oX, oX,
    oZ rF, oT rF, oA,
    trivial⟩ (fun L2 w3 hp3 => ?_)
  refine k3 _ _ ?_
  refine wp_seq_k (fun K4 k4 => ?_)
  refine wp_seq_k (fun K5 k5 => ?_)
  refine gs [.det (.bool false), .det (.bool true)] [0, 1] [0, 1] (fun L => [PV x, pt (L0.b 0) 0, pt (L0.b 1) 0, .bool false, pt (L1.b 5) 0, .int .i64 0, pt (L2.b 15) 0, .bool false, undef, undef, undef, undef, undef, undef, undef, undef, .tuple #[FV h, .int .i64 0], FV 2, .tuple #[FV h, .int .i64 0], FV h, .int .i64 0, .tuple #[FV (root x.norm), .bool false], pt (L0.b 0) 0, FV x.c0, pt (L0.b 0) 0, FV x.c0, FV (x.c0 * x.c0), pt (L0.b 0) 6, FV x.c1, pt (L0.b 0) 6, FV x.c1, FV (x.c1 * x.c1), FV x.norm, .tuple #[FV (root x.norm), .bool false], FV (root x.norm), .bool false, .bool false, .bool true] ++ U 57) (fun L => [((L0.b 0), PC x), ((L0.b 1), PC 0), ((L1.b 5), FC h), ((L2.b 15), FC (root x.norm))]) hp3 ⟨
    oM, oN,
    trivial⟩ (fun L3 w4 hp4 => ?_)
  refine k5 _ _ ?_
  refine wp_cond_true (by kernel_rfl) ?_
  refine wp_seq_k (fun K6 k6 => ?_)
  refine gs [.det (PV 0), .store (.base 1) 0 (PC 0) (PC 0), .det (.bool false)] [0, 1, 2] [0, 1, 3] (fun L => [PV x, pt (L0.b 0) 0, pt (L0.b 1) 0, .bool false, pt (L1.b 5) 0, .int .i64 0, pt (L2.b 15) 0, .bool false, undef, undef, undef, undef, undef, undef, undef, undef, .tuple #[FV h, .int .i64 0], FV 2, .tuple #[FV h, .int .i64 0], FV h, .int .i64 0, .tuple #[FV (root x.norm), .bool false], pt (L0.b 0) 0, FV x.c0, pt (L0.b 0) 0, FV x.c0, FV (x.c0 * x.c0), pt (L0.b 0) 6, FV x.c1, pt (L0.b 0) 6, FV x.c1, FV (x.c1 * x.c1), FV x.norm, .tuple #[FV (root x.norm), .bool false], FV (root x.norm), .bool false, .bool false, .bool true, PV 0] ++ U 56) (fun L => [((L0.b 0), PC x), ((L0.b 1), PC 0), ((L1.b 5), FC h), ((L2.b 15), FC (root x.norm))]) hp4 ⟨
    oD buildP0, oT rP, oA,
    trivial⟩ (fun L4 w5 hp5 => ?_)
  refine k6 _ _ ?_
  refine wp_ret ?_
  refine bodyPost_ret (v := .tuple #[PV 0, .bool false]) ?_ rfl ?_
  · exact rct rP rfl (by kernel_rfl) (by kernel_rfl) (hp5.bound 1 rfl).2
  · exact ⟨rfl, hp5.bel⟩
set_option maxHeartbeats 4000000 in
theorem sqA (R : RefK) (x : F2) {n h m : F} {b : Bool} {r i y : F} {gr : Bool} (w : World) (hq : isq x.norm = true) (hh : finv 2 = h) (hn : root x.norm = n) (hm : root (-x.c0) = m) (hb : isq (-x.c0) = b) (h0 : isq ((x.c0 + n) * h) = true) (hr : root ((x.c0 + n) * h) = r) (hi : r ≠ 0) (hj : finv r = i) (hy : x.c1 * h * i = y) (hz : (⟨r, y⟩ : F2) * ⟨r, y⟩ = x) (hG : (⟨r, y⟩ : F2).great = gr) : Calls Tryd.prog 55 #[PV x] w (Ret (.tuple #[PV (bif gr then (-⟨r, y⟩) else ⟨r, y⟩), .bool true]) w) := by
  have hp0 := Heap.start w
  go_enter Tryd.func55, Tryd.ntmps55
  refine wp_seq_k (fun K1 k1 => ?_)
  refine gs [.alloc (PC x), .alloc (PC 0), .det (.bool false)] [0, 1, 2] [0, 0, 0] (fun L => [PV x, pt (L.b 0) 0, pt (L.b 1) 0, .bool false] ++ U 91) (fun L => [(L.b 0, PC x), (L.b 1, PC 0)]) hp0 ⟨
    oB, oZ rP, oA,
    trivial⟩ (fun L0 w1 hp1 => ?_)
  refine k1 _ _ ?_
  refine wp_seq_k (fun K2 k2 => ?_)
  refine gs [.det (FV 2), .det (.tuple #[FV h, .int .i64 0]), .det (.tuple #[FV h, .int .i64 0]), .det (FV h), .det (.int .i64 0), .alloc (FC 0), .store (.new 5) 0 (FC h) (FC h), .det (.int .i64 0)] [0, 1, 2, 3, 4, 5, 6, 7] [0, 1, 3, 7, 7, 0, 47, 127] (fun L => [PV x, pt (L0.b 0) 0, pt (L0.b 1) 0, .bool false, pt (L.b 5) 0, .int .i64 0, undef, undef, undef, undef, undef, undef, undef, undef, undef, undef, .tuple #[FV h, .int .i64 0], FV 2, .tuple #[FV h, .int .i64 0], FV h, .int .i64 0] ++ U 74) (fun L => [((L0.b 0), PC x), ((L0.b 1), PC 0), (L.b 5, FC h)]) hp1 ⟨
    oR R.of2, oH (v := .tuple #[FV h, .int .i64 0]) (vs := #[FV 2]) (fun w _ _ => by have e := R.inv 2 w trivial two_ne; rw [hh] at e; exact e), oM, oX, oX, oZ rF,
    oT rF, oA,
    trivial⟩ (fun L1 w2 hp2 => ?_)
  refine k2 _ _ ?_
  refine wp_seq_k (fun K3 k3 => ?_)
  refine dr [.det (pt (L0.b 0) 0), .det (FV x.c0), .det (pt (L0.b 0) 0), .det (FV x.c0), .det (FV (x.c0 * x.c0)), .det (pt (L0.b 0) 6), .det (FV x.c1), .det (pt (L0.b 0) 6), .det (FV x.c1), .det (FV (x.c1 * x.c1)), .det (FV x.norm), .det (.tuple #[FV n, .bool true]), .det (.tuple #[FV n, .bool true]), .det (FV n), .det (.bool true), .alloc (FC 0), .store (.new 15) 0 (FC n) (FC n), .det (.bool true)] [0, 1, 2, 3, 4, 5, 6, 7, 8, 9, 10, 11, 12, 13, 14, 15, 16, 17] [0, 1, 0, 4, 15, 0, 32, 0, 128, 511, 1023, 2047, 4095, 8191, 8191, 0, 49151, 131071] (fun L => [PV x, pt (L0.b 0) 0, pt (L0.b 1) 0, .bool false, pt (L1.b 5) 0, .int .i64 0, pt (L.b 15) 0, .bool true, undef, undef, undef, undef, undef, undef, undef, undef, .tuple #[FV h, .int .i64 0], FV 2, .tuple #[FV h, .int .i64 0], FV h, .int .i64 0, .tuple #[FV n, .bool true], pt (L0.b 0) 0, FV x.c0, pt (L0.b 0) 0, FV x.c0, FV (x.c0 * x.c0), pt (L0.b 0) 6, FV x.c1, pt (L0.b 0) 6, FV x.c1, FV (x.c1 * x.c1), FV x.norm, .tuple #[FV n, .bool true], FV n, .bool true] ++ U 59) (fun L => [((L0.b 0), PC x), ((L0.b 1), PC 0), ((L1.b 5), FC h), (L.b 15, FC n)]) hp2 ⟨
    oI aP, oL 0 0 rF, oI aP, oL 0 0 rF, oR (fun w => R.mul x.c0 x.c0 w trivial), oI aP, oL 0 6 rF, oI aP, oL 0 6 rF, oR (fun w => R.mul x.c1 x.c1 w trivial), oR (fun w => R.add (x.c0 * x.c0) (x.c1 * x.c1) w trivial),
    oH (v := .tuple #[FV n, .bool true]) (vs := #[FV x.norm]) (fun w _ _ => by have e := R.sqrt x.norm w trivial; rw [hq, hn] at e; exact e), oM, oX, oX, oZ rF,
    oT rF, oA,
    trivial⟩ (fun L2 w3 hp3 => ?_)
  refine k3 _ _ ?_
  refine wp_seq_k (fun K4 k4 => ?_)
  refine wp_seq_k (fun K5 k5 => ?_)
  refine gs [.det (.bool true), .det (.bool false)] [0, 1] [0, 1] (fun L => [PV x, pt (L0.b 0) 0, pt (L0.b 1) 0, .bool false, pt (L1.b 5) 0, .int .i64 0, pt (L2.b 15) 0, .bool true, undef, undef, undef, undef, undef, undef, undef, undef, .tuple #[FV h, .int .i64 0], FV 2, .tuple #[FV h, .int .i64 0], FV h, .int .i64 0, .tuple #[FV n, .bool true], pt (L0.b 0) 0, FV x.c0, pt (L0.b 0) 0, FV x.c0, FV (x.c0 * x.c0), pt (L0.b 0) 6, FV x.c1, pt (L0.b 0) 6, FV x.c1, FV (x.c1 * x.c1), FV x.norm, .tuple #[FV n, .bool true], FV n, .bool true, .bool true, .bool false] ++ U 57) (fun L => [((L0.b 0), PC x), ((L0.b 1), PC 0), ((L1.b 5), FC h), ((L2.b 15), FC n)]) hp3 ⟨
    oM, oN,
    trivial⟩ (fun L3 w4 hp4 => ?_)
  refine k5 _ _ ?_
  refine wp_cond_false (by kernel_rfl) ?_
  refine skips ?_
  refine k4 _ _ ?_
  refine wp_seq_k (fun K6 k6 => ?_)
  refine wp_seq_k (fun K7 k7 => ?_)
  refine gs [.det (.int .i64 0)] [0] [0] (fun L => [PV x, pt (L0.b 0) 0, pt (L0.b 1) 0, .bool false, pt (L1.b 5) 0, .int .i64 0, pt (L2.b 15) 0, .bool true, .int .i64 0, undef, undef, undef, undef, undef, undef, undef, .tuple #[FV h, .int .i64 0], FV 2, .tuple #[FV h, .int .i64 0], FV h, .int .i64 0, .tuple #[FV n, .bool true], pt (L0.b 0) 0, FV x.c0, pt (L0.b 0) 0, FV x.c0, FV (x.c0 * x.c0), pt (L0.b 0) 6, FV x.c1, pt (L0.b 0) 6, FV x.c1, FV (x.c1 * x.c1), FV x.norm, .tuple #[FV n, .bool true], FV n, .bool true, .bool true, .bool false] ++ U 57) (fun L => [((L0.b 0), PC x), ((L0.b 1), PC 0), ((L1.b 5), FC h), ((L2.b 15), FC n)]) hp4 ⟨
    oA,
    trivial⟩ (fun L4 w5 hp5 => ?_)
  refine k7 _ _ ?_
  refine wp_block_k (fun K8 k8 => ?_)
  refine wp_loop_rounds 9 ?_
  refine rounds_k (fun K9 k9 => ?_)
  refine wp_seq_k (fun K10 k10 => ?_)
  refine wp_seq_k (fun K11 k11 => ?_)
  refine gs [.det (.int .i64 0), .det (.bool true)] [0, 1] [0, 1] (fun L => [PV x, pt (L0.b 0) 0, pt (L0.b 1) 0, .bool false, pt (L1.b 5) 0, .int .i64 0, pt (L2.b 15) 0, .bool true, .int .i64 0, undef, undef, undef, undef, undef, undef, undef, .tuple #[FV h, .int .i64 0], FV 2, .tuple #[FV h, .int .i64 0], FV h, .int .i64 0, .tuple #[FV n, .bool true], pt (L0.b 0) 0, FV x.c0, pt (L0.b 0) 0, FV x.c0, FV (x.c0 * x.c0), pt (L0.b 0) 6, FV x.c1, pt (L0.b 0) 6, FV x.c1, FV (x.c1 * x.c1), FV x.norm, .tuple #[FV n, .bool true], FV n, .bool true, .bool true, .bool false, undef, .int .i64 0, .bool true] ++ U 54) (fun L => [((L0.b 0), PC x), ((L0.b 1), PC 0), ((L1.b 5), FC h), ((L2.b 15), FC n)]) hp5 ⟨
    oM, oJ .i64 .i64 0 2,
    trivial⟩ (fun L5 w6 hp6 => ?_)
  refine k11 _ _ ?_
  refine wp_cond_true (by kernel_rfl) ?_
  refine skips ?_
  refine k10 _ _ ?_
  refine wp_seq_k (fun K12 k12 => ?_)
  refine wp_block_k (fun K13 k13 => ?_)
  refine wp_seq_k (fun K14 k14 => ?_)
  refine dr [.det (pt (L0.b 0) 0), .det (FV x.c0), .det (FV n), .det (FV (x.c0 + n)), .det (FV h), .det (FV ((x.c0 + n) * h)), .det (.tuple #[FV r, .bool true]), .det (.tuple #[FV r, .bool true]), .det (FV r), .det (.bool true), .alloc (FC 0), .store (.new 10) 0 (FC r) (FC r), .det (.bool true)] [0, 1, 2, 3, 4, 5, 6, 7, 8, 9, 10, 11, 12] [0, 1, 0, 7, 0, 31, 63, 127, 255, 255, 0, 1535, 4095] (fun L => [PV x, pt (L0.b 0) 0, pt (L0.b 1) 0, .bool false, pt (L1.b 5) 0, .int .i64 0, pt (L2.b 15) 0, .bool true, .int .i64 0, pt (L.b 10) 0, .bool true, undef, undef, undef, undef, undef, .tuple #[FV h, .int .i64 0], FV 2, .tuple #[FV h, .int .i64 0], FV h, .int .i64 0, .tuple #[FV n, .bool true], pt (L0.b 0) 0, FV x.c0, pt (L0.b 0) 0, FV x.c0, FV (x.c0 * x.c0), pt (L0.b 0) 6, FV x.c1, pt (L0.b 0) 6, FV x.c1, FV (x.c1 * x.c1), FV x.norm, .tuple #[FV n, .bool true], FV n, .bool true, .bool true, .bool false, undef, .int .i64 0, .bool true, undef, undef, .tuple #[FV r, .bool true], pt (L0.b 0) 0, FV x.c0, FV n, FV (x.c0 + n), FV h, FV ((x.c0 + n) * h), .tuple #[FV r, .bool true], FV r, .bool true] ++ U 42) (fun L => [((L0.b 0), PC x), ((L0.b 1), PC 0), ((L1.b 5), FC h), ((L2.b 15), FC n), (L.b 10, FC r)]) hp6 ⟨
    oI aP, oL 0 0 rF, oL 3 0 rF, oR (fun w => R.add x.c0 n w trivial), oL 2 0 rF, oR (fun w => R.mul (x.c0 + n) h w trivial), oH (v := .tuple #[FV r, .bool true]) (vs := #[FV ((x.c0 + n) * h)]) (fun w _ _ => by have e := R.sqrt ((x.c0 + n) * h) w trivial; rw [h0, hr] at e; exact e),
    oM, oX, oX, oZ rF, oT rF, oA,
    trivial⟩ (fun L6 w7 hp7 => ?_)
  refine k14 _ _ ?_
  refine wp_seq_k (fun K15 k15 => ?_)
  refine gs [.det (FV n), .det (FV (-n)), .store (.base 3) 0 (FC (-n)) (FC (-n))] [0, 1, 2] [0, 1, 3] (fun L => [PV x, pt (L0.b 0) 0, pt (L0.b 1) 0, .bool false, pt (L1.b 5) 0, .int .i64 0, pt (L2.b 15) 0, .bool true, .int .i64 0, pt (L6.b 10) 0, .bool true, undef, undef, undef, undef, undef, .tuple #[FV h, .int .i64 0], FV 2, .tuple #[FV h, .int .i64 0], FV h, .int .i64 0, .tuple #[FV n, .bool true], pt (L0.b 0) 0, FV x.c0, pt (L0.b 0) 0, FV x.c0, FV (x.c0 * x.c0), pt (L0.b 0) 6, FV x.c1, pt (L0.b 0) 6, FV x.c1, FV (x.c1 * x.c1), FV x.norm, .tuple #[FV n, .bool true], FV n, .bool true, .bool true, .bool false, undef, .int .i64 0, .bool true, undef, undef, .tuple #[FV r, .bool true], pt (L0.b 0) 0, FV x.c0, FV n, FV (x.c0 + n), FV h, FV ((x.c0 + n) * h), .tuple #[FV r, .bool true], FV r, .bool true, FV n, FV (-n)] ++ U 40) (fun L => [((L0.b 0), PC x), ((L0.b 1), PC 0), ((L1.b 5), FC h), ((L2.b 15), FC (-n)), ((L6.b 10), FC r)]) hp7 ⟨
    oL 3 0 rF, oR (fun w => R.neg n w trivial), oT rF,
    trivial⟩ (fun L7 w8 hp8 => ?_)
  refine k15 _ _ ?_
  refine wp_seq_k (fun K16 k16 => ?_)
  refine wp_seq_k (fun K17 k17 => ?_)
  refine gs [.det (.bool true), .det (.bool false)] [0, 1] [0, 1] (fun L => [PV x, pt (L0.b 0) 0, pt (L0.b 1) 0, .bool false, pt (L1.b 5) 0, .int .i64 0, pt (L2.b 15) 0, .bool true, .int .i64 0, pt (L6.b 10) 0, .bool true, undef, undef, undef, undef, undef, .tuple #[FV h, .int .i64 0], FV 2, .tuple #[FV h, .int .i64 0], FV h, .int .i64 0, .tuple #[FV n, .bool true], pt (L0.b 0) 0, FV x.c0, pt (L0.b 0) 0, FV x.c0, FV (x.c0 * x.c0), pt (L0.b 0) 6, FV x.c1, pt (L0.b 0) 6, FV x.c1, FV (x.c1 * x.c1), FV x.norm, .tuple #[FV n, .bool true], FV n, .bool true, .bool true, .bool false, undef, .int .i64 0, .bool true, undef, undef, .tuple #[FV r, .bool true], pt (L0.b 0) 0, FV x.c0, FV n, FV (x.c0 + n), FV h, FV ((x.c0 + n) * h), .tuple #[FV r, .bool true], FV r, .bool true, FV n, FV (-n), .bool true, .bool false] ++ U 38) (fun L => [((L0.b 0), PC x), ((L0.b 1), PC 0), ((L1.b 5), FC h), ((L2.b 15), FC (-n)), ((L6.b 10), FC r)]) hp8 ⟨
    oM, oN,
    trivial⟩ (fun L8 w9 hp9 => ?_)
  refine k17 _ _ ?_
  refine wp_cond_false (by kernel_rfl) ?_
  refine skips ?_
  refine k16 _ _ ?_
  refine wp_seq_k (fun K18 k18 => ?_)
  refine gs [.det (pt (L0.b 0) 0), .det (FV x.c0), .det (FV (-x.c0)), .det (.tuple #[FV m, .bool b]), .det (.tuple #[FV m, .bool b]), .det (FV m), .det (.bool b), .alloc (FC 0), .store (.new 7) 0 (FC m) (FC m), .det (.bool b)] [0, 1, 2, 3, 4, 5, 6, 7, 8, 9] [0, 1, 3, 7, 15, 31, 31, 0, 191, 511] (fun L => [PV x, pt (L0.b 0) 0, pt (L0.b 1) 0, .bool false, pt (L1.b 5) 0, .int .i64 0, pt (L2.b 15) 0, .bool true, .int .i64 0, pt (L6.b 10) 0, .bool true, pt (L.b 7) 0, .bool b, undef, undef, undef, .tuple #[FV h, .int .i64 0], FV 2, .tuple #[FV h, .int .i64 0], FV h, .int .i64 0, .tuple #[FV n, .bool true], pt (L0.b 0) 0, FV x.c0, pt (L0.b 0) 0, FV x.c0, FV (x.c0 * x.c0), pt (L0.b 0) 6, FV x.c1, pt (L0.b 0) 6, FV x.c1, FV (x.c1 * x.c1), FV x.norm, .tuple #[FV n, .bool true], FV n, .bool true, .bool true, .bool false, undef, .int .i64 0, .bool true, undef, undef, .tuple #[FV r, .bool true], pt (L0.b 0) 0, FV x.c0, FV n, FV (x.c0 + n), FV h, FV ((x.c0 + n) * h), .tuple #[FV r, .bool true], FV r, .bool true, FV n, FV (-n), .bool true, .bool false, .tuple #[FV m, .bool b], pt (L0.b 0) 0, FV x.c0, FV (-x.c0), .tuple #[FV m, .bool b], FV m, .bool b] ++ U 31) (fun L => [((L0.b 0), PC x), ((L0.b 1), PC 0), ((L1.b 5), FC h), ((L2.b 15), FC (-n)), ((L6.b 10), FC r), (L.b 7, FC m)]) hp9 ⟨
    oI aP, oL 0 0 rF, oR (fun w => R.neg x.c0 w trivial), oH (v := .tuple #[FV m, .bool b]) (vs := #[FV (-x.c0)]) (fun w _ _ => by have e := R.sqrt (-x.c0) w trivial; rw [hb, hm] at e; exact e),
    oM, oX, oX, oZ rF, oT rF, oA,
    trivial⟩ (fun L9 w10 hp10 => ?_)
  refine k18 _ _ ?_
  refine wp_seq_k (fun K19 k19 => ?_)
  refine wp_seq_k (fun K20 k20 => ?_)
  refine gs [.det (FV r), .det (FV 0), .det (.bool true)] [0, 1, 2] [0, 0, 3] (fun L => [PV x, pt (L0.b 0) 0, pt (L0.b 1) 0, .bool false, pt (L1.b 5) 0, .int .i64 0, pt (L2.b 15) 0, .bool true, .int .i64 0, pt (L6.b 10) 0, .bool true, pt (L9.b 7) 0, .bool b, undef, undef, undef, .tuple #[FV h, .int .i64 0], FV 2, .tuple #[FV h, .int .i64 0], FV h, .int .i64 0, .tuple #[FV n, .bool true], pt (L0.b 0) 0, FV x.c0, pt (L0.b 0) 0, FV x.c0, FV (x.c0 * x.c0), pt (L0.b 0) 6, FV x.c1, pt (L0.b 0) 6, FV x.c1, FV (x.c1 * x.c1), FV x.norm, .tuple #[FV n, .bool true], FV n, .bool true, .bool true, .bool false, undef, .int .i64 0, .bool true, undef, undef, .tuple #[FV r, .bool true], pt (L0.b 0) 0, FV x.c0, FV n, FV (x.c0 + n), FV h, FV ((x.c0 + n) * h), .tuple #[FV r, .bool true], FV r, .bool true, FV n, FV (-n), .bool true, .bool false, .tuple #[FV m, .bool b], pt (L0.b 0) 0, FV x.c0, FV (-x.c0), .tuple #[FV m, .bool b], FV m, .bool b, FV r, FV 0, .bool true] ++ U 28) (fun L => [((L0.b 0), PC x), ((L0.b 1), PC 0), ((L1.b 5), FC h), ((L2.b 15), FC (-n)), ((L6.b 10), FC r), ((L9.b 7), FC m)]) hp10 ⟨
    oL 4 0 rF, oD buildF0, oU (a := r) (b := 0) qF (yes' hi),
    trivial⟩ (fun L10 w11 hp11 => ?_)
  refine k20 _ _ ?_
  refine wp_cond_true (by kernel_rfl) ?_
  refine wp_seq_k (fun K21 k21 => ?_)
  refine gs [.det (FV r), .det (.tuple #[FV i, .int .i64 0]), .det (.tuple #[FV i, .int .i64 0]), .det (FV i), .det (.int .i64 0), .alloc (FC 0), .store (.new 5) 0 (FC i) (FC i), .det (.int .i64 0)] [0, 1, 2, 3, 4, 5, 6, 7] [0, 1, 3, 7, 7, 0, 47, 127] (fun L => [PV x, pt (L0.b 0) 0, pt (L0.b 1) 0, .bool false, pt (L1.b 5) 0, .int .i64 0, pt (L2.b 15) 0, .bool true, .int .i64 0, pt (L6.b 10) 0, .bool true, pt (L9.b 7) 0, .bool b, pt (L.b 5) 0, .int .i64 0, undef, .tuple #[FV h, .int .i64 0], FV 2, .tuple #[FV h, .int .i64 0], FV h, .int .i64 0, .tuple #[FV n, .bool true], pt (L0.b 0) 0, FV x.c0, pt (L0.b 0) 0, FV x.c0, FV (x.c0 * x.c0), pt (L0.b 0) 6, FV x.c1, pt (L0.b 0) 6, FV x.c1, FV (x.c1 * x.c1), FV x.norm, .tuple #[FV n, .bool true], FV n, .bool true, .bool true, .bool false, undef, .int .i64 0, .bool true, undef, undef, .tuple #[FV r, .bool true], pt (L0.b 0) 0, FV x.c0, FV n, FV (x.c0 + n), FV h, FV ((x.c0 + n) * h), .tuple #[FV r, .bool true], FV r, .bool true, FV n, FV (-n), .bool true, .bool false, .tuple #[FV m, .bool b], pt (L0.b 0) 0, FV x.c0, FV (-x.c0), .tuple #[FV m, .bool b], FV m, .bool b, FV r, FV 0, .bool true, .tuple #[FV i, .int .i64 0], FV r, .tuple #[FV i, .int .i64 0], FV i, .int .i64 0] ++ U 23) (fun L => [((L0.b 0), PC x), ((L0.b 1), PC 0), ((L1.b 5), FC h), ((L2.b 15), FC (-n)), ((L6.b 10), FC r), ((L9.b 7), FC m), (L.b 5, FC i)]) hp11 ⟨
    oL 4 0 rF, oH (v := .tuple #[FV i, .int .i64 0]) (vs := #[FV r]) (fun w _ _ => by have e := R.inv r w trivial hi; rw [hj] at e; exact e), oM, oX, oX, oZ rF,
    oT rF, oA,
    trivial⟩ (fun L11 w12 hp12 => ?_)
  refine k21 _ _ ?_
  refine dr [.det (pt (L0.b 0) 6), .det (FV x.c1), .det (FV h), .det (FV (x.c1 * h)), .det (FV i), .det (FV y), .store (.base 5) 0 (FC y) (FC y), .det (.bool true)] [0, 1, 2, 3, 4, 5, 6, 7] [0, 1, 0, 7, 0, 31, 63, 127] (fun L => [PV x, pt (L0.b 0) 0, pt (L0.b 1) 0, .bool false, pt (L1.b 5) 0, .int .i64 0, pt (L2.b 15) 0, .bool true, .int .i64 0, pt (L6.b 10) 0, .bool true, pt (L9.b 7) 0, .bool true, pt (L11.b 5) 0, .int .i64 0, undef, .tuple #[FV h, .int .i64 0], FV 2, .tuple #[FV h, .int .i64 0], FV h, .int .i64 0, .tuple #[FV n, .bool true], pt (L0.b 0) 0, FV x.c0, pt (L0.b 0) 0, FV x.c0, FV (x.c0 * x.c0), pt (L0.b 0) 6, FV x.c1, pt (L0.b 0) 6, FV x.c1, FV (x.c1 * x.c1), FV x.norm, .tuple #[FV n, .bool true], FV n, .bool true, .bool true, .bool false, undef, .int .i64 0, .bool true, undef, undef, .tuple #[FV r, .bool true], pt (L0.b 0) 0, FV x.c0, FV n, FV (x.c0 + n), FV h, FV ((x.c0 + n) * h), .tuple #[FV r, .bool true], FV r, .bool true, FV n, FV (-n), .bool true, .bool false, .tuple #[FV m, .bool b], pt (L0.b 0) 0, FV x.c0, FV (-x.c0), .tuple #[FV m, .bool b], FV m, .bool b, FV r, FV 0, .bool true, .tuple #[FV i, .int .i64 0], FV r, .tuple #[FV i, .int .i64 0], FV i, .int .i64 0, pt (L0.b 0) 6, FV x.c1, FV h, FV (x.c1 * h), FV i, FV y] ++ U 17) (fun L => [((L0.b 0), PC x), ((L0.b 1), PC 0), ((L1.b 5), FC h), ((L2.b 15), FC (-n)), ((L6.b 10), FC r), ((L9.b 7), FC y), ((L11.b 5), FC i)]) hp12 ⟨
    oI aP, oL 0 6 rF, oL 2 0 rF, oR (fun w => R.mul x.c1 h w trivial), oL 6 0 rF, oH (v := FV y) (vs := #[FV (x.c1 * h), FV i]) (fun w _ _ => by have e := R.mul (x.c1 * h) i w trivial; rw [hy] at e; exact e),
    oT rF, oA,
    trivial⟩ (fun L12 w13 hp13 => ?_)
  refine k19 _ _ ?_
  refine wp_seq_k (fun K22 k22 => ?_)
  refine gs [.det (FV r), .det (FV y), .det (PV ⟨r, y⟩), .alloc (PC 0), .store (.new 3) 0 (PC ⟨r, y⟩) (PC ⟨r, y⟩)] [0, 1, 2, 3, 4] [0, 0, 3, 0, 15] (fun L => [PV x, pt (L0.b 0) 0, pt (L0.b 1) 0, .bool false, pt (L1.b 5) 0, .int .i64 0, pt (L2.b 15) 0, .bool true, .int .i64 0, pt (L6.b 10) 0, .bool true, pt (L9.b 7) 0, .bool true, pt (L11.b 5) 0, .int .i64 0, pt (L.b 3) 0, .tuple #[FV h, .int .i64 0], FV 2, .tuple #[FV h, .int .i64 0], FV h, .int .i64 0, .tuple #[FV n, .bool true], pt (L0.b 0) 0, FV x.c0, pt (L0.b 0) 0, FV x.c0, FV (x.c0 * x.c0), pt (L0.b 0) 6, FV x.c1, pt (L0.b 0) 6, FV x.c1, FV (x.c1 * x.c1), FV x.norm, .tuple #[FV n, .bool true], FV n, .bool true, .bool true, .bool false, undef, .int .i64 0, .bool true, undef, undef, .tuple #[FV r, .bool true], pt (L0.b 0) 0, FV x.c0, FV n, FV (x.c0 + n), FV h, FV ((x.c0 + n) * h), .tuple #[FV r, .bool true], FV r, .bool true, FV n, FV (-n), .bool true, .bool false, .tuple #[FV m, .bool b], pt (L0.b 0) 0, FV x.c0, FV (-x.c0), .tuple #[FV m, .bool b], FV m, .bool b, FV r, FV 0, .bool true, .tuple #[FV i, .int .i64 0], FV r, .tuple #[FV i, .int .i64 0], FV i, .int .i64 0, pt (L0.b 0) 6, FV x.c1, FV h, FV (x.c1 * h), FV i, FV y, FV r, FV y, PV ⟨r, y⟩] ++ U 14) (fun L => [((L0.b 0), PC x), ((L0.b 1), PC 0), ((L1.b 5), FC h), ((L2.b 15), FC (-n)), ((L6.b 10), FC r), ((L9.b 7), FC y), ((L11.b 5), FC i), (L.b 3, PC ⟨r, y⟩)]) hp13 ⟨
    oL 4 0 rF, oL 5 0 rF, oD (buildP r y), oZ rP, oT rP,
    trivial⟩ (fun L13 w14 hp14 => ?_)
  refine k22 _ _ ?_
  refine wp_seq_k (fun K23 k23 => ?_)
  refine dr [.det (.bool true), .det (.bool true), .det (PV ⟨r, y⟩), .det (PV ⟨r, y⟩), .det (PV x), .det (PV x), .det (.bool true), .det (.bool true)] [0, 1, 2, 3, 4, 5, 6, 7] [0, 1, 3, 3, 15, 3, 63, 127] (fun L => [PV x, pt (L0.b 0) 0, pt (L0.b 1) 0, .bool false, pt (L1.b 5) 0, .int .i64 0, pt (L2.b 15) 0, .bool true, .int .i64 0, pt (L6.b 10) 0, .bool true, pt (L9.b 7) 0, .bool true, pt (L11.b 5) 0, .int .i64 0, pt (L13.b 3) 0, .tuple #[FV h, .int .i64 0], FV 2, .tuple #[FV h, .int .i64 0], FV h, .int .i64 0, .tuple #[FV n, .bool true], pt (L0.b 0) 0, FV x.c0, pt (L0.b 0) 0, FV x.c0, FV (x.c0 * x.c0), pt (L0.b 0) 6, FV x.c1, pt (L0.b 0) 6, FV x.c1, FV (x.c1 * x.c1), FV x.norm, .tuple #[FV n, .bool true], FV n, .bool true, .bool true, .bool false, undef, .int .i64 0, .bool true, undef, undef, .tuple #[FV r, .bool true], pt (L0.b 0) 0, FV x.c0, FV n, FV (x.c0 + n), FV h, FV ((x.c0 + n) * h), .tuple #[FV r, .bool true], FV r, .bool true, FV n, FV (-n), .bool true, .bool false, .tuple #[FV m, .bool b], pt (L0.b 0) 0, FV x.c0, FV (-x.c0), .tuple #[FV m, .bool b], FV m, .bool b, FV r, FV 0, .bool true, .tuple #[FV i, .int .i64 0], FV r, .tuple #[FV i, .int .i64 0], FV i, .int .i64 0, pt (L0.b 0) 6, FV x.c1, FV h, FV (x.c1 * h), FV i, FV y, FV r, FV y, PV ⟨r, y⟩, .bool true, .bool true, PV ⟨r, y⟩, PV ⟨r, y⟩, PV x, PV x, .bool true, .bool true] ++ U 6) (fun L => [((L0.b 0), PC x), ((L0.b 1), PC 0), ((L1.b 5), FC h), ((L2.b 15), FC (-n)), ((L6.b 10), FC r), ((L9.b 7), FC y), ((L11.b 5), FC i), ((L13.b 3), PC ⟨r, y⟩)]) hp14 ⟨
    oM, oM, oL 7 0 rP, oL 7 0 rP, oH (v := PV x) (vs := #[PV ⟨r, y⟩, PV ⟨r, y⟩]) (fun w _ _ => by have e := ref5Mul2 R ⟨r, y⟩ ⟨r, y⟩ w; rw [hz] at e; exact e), oL 0 0 rP,
    oE (a := x) (b := x) qP (yes rfl), oP,
    trivial⟩ (fun L14 w15 hp15 => ?_)
  refine k23 _ _ ?_
  refine wp_cond_true (by kernel_rfl) ?_
  refine wp_seq_k (fun K24 k24 => ?_)
  refine wp_seq_k (fun K25 k25 => ?_)
  refine gs [.det (PV ⟨r, y⟩), .det (.bool gr)] [0, 1] [0, 1] (fun L => [PV x, pt (L0.b 0) 0, pt (L0.b 1) 0, .bool false, pt (L1.b 5) 0, .int .i64 0, pt (L2.b 15) 0, .bool true, .int .i64 0, pt (L6.b 10) 0, .bool true, pt (L9.b 7) 0, .bool true, pt (L11.b 5) 0, .int .i64 0, pt (L13.b 3) 0, .tuple #[FV h, .int .i64 0], FV 2, .tuple #[FV h, .int .i64 0], FV h, .int .i64 0, .tuple #[FV n, .bool true], pt (L0.b 0) 0, FV x.c0, pt (L0.b 0) 0, FV x.c0, FV (x.c0 * x.c0), pt (L0.b 0) 6, FV x.c1, pt (L0.b 0) 6, FV x.c1, FV (x.c1 * x.c1), FV x.norm, .tuple #[FV n, .bool true], FV n, .bool true, .bool true, .bool false, undef, .int .i64 0, .bool true, undef, undef, .tuple #[FV r, .bool true], pt (L0.b 0) 0, FV x.c0, FV n, FV (x.c0 + n), FV h, FV ((x.c0 + n) * h), .tuple #[FV r, .bool true], FV r, .bool true, FV n, FV (-n), .bool true, .bool false, .tuple #[FV m, .bool b], pt (L0.b 0) 0, FV x.c0, FV (-x.c0), .tuple #[FV m, .bool b], FV m, .bool b, FV r, FV 0, .bool true, .tuple #[FV i, .int .i64 0], FV r, .tuple #[FV i, .int .i64 0], FV i, .int .i64 0, pt (L0.b 0) 6, FV x.c1, FV h, FV (x.c1 * h), FV i, FV y, FV r, FV y, PV ⟨r, y⟩, .bool true, .bool true, PV ⟨r, y⟩, PV ⟨r, y⟩, PV x, PV x, .bool true, .bool true, PV ⟨r, y⟩, .bool gr] ++ U 4) (fun L => [((L0.b 0), PC x), ((L0.b 1), PC 0), ((L1.b 5), FC h), ((L2.b 15), FC (-n)), ((L6.b 10), FC r), ((L9.b 7), FC y), ((L11.b 5), FC i), ((L13.b 3), PC ⟨r, y⟩)]) hp15 ⟨
    oL 7 0 rP, oH (v := .bool gr) (vs := #[PV ⟨r, y⟩]) (fun w _ _ => by have e := ref5Great2 R ⟨r, y⟩ w; rw [hG] at e; exact e),
    trivial⟩ (fun L15 w16 hp16 => ?_)
  refine k25 _ _ ?_
  cases gr
  · skip
    refine wp_cond_false (by kernel_rfl) ?_
    refine skips ?_
    refine k24 _ _ ?_
    refine wp_seq_k (fun K26 k26 => ?_)
    refine gs [.det (PV ⟨r, y⟩), .store (.base 1) 0 (PC ⟨r, y⟩) (PC ⟨r, y⟩), .det (.bool true)] [0, 1, 2] [0, 1, 3] (fun L => [PV x, pt (L0.b 0) 0, pt (L0.b 1) 0, .bool true, pt (L1.b 5) 0, .int .i64 0, pt (L2.b 15) 0, .bool true, .int .i64 0, pt (L6.b 10) 0, .bool true, pt (L9.b 7) 0, .bool true, pt (L11.b 5) 0, .int .i64 0, pt (L13.b 3) 0, .tuple #[FV h, .int .i64 0], FV 2, .tuple #[FV h, .int .i64 0], FV h, .int .i64 0, .tuple #[FV n, .bool true], pt (L0.b 0) 0, FV x.c0, pt (L0.b 0) 0, FV x.c0, FV (x.c0 * x.c0), pt (L0.b 0) 6, FV x.c1, pt (L0.b 0) 6, FV x.c1, FV (x.c1 * x.c1), FV x.norm, .tuple #[FV n, .bool true], FV n, .bool true, .bool true, .bool false, undef, .int .i64 0, .bool true, undef, undef, .tuple #[FV r, .bool true], pt (L0.b 0) 0, FV x.c0, FV n, FV (x.c0 + n), FV h, FV ((x.c0 + n) * h), .tuple #[FV r, .bool true], FV r, .bool true, FV n, FV (-n), .bool true, .bool false, .tuple #[FV m, .bool b], pt (L0.b 0) 0, FV x.c0, FV (-x.c0), .tuple #[FV m, .bool b], FV m, .bool b, FV r, FV 0, .bool true, .tuple #[FV i, .int .i64 0], FV r, .tuple #[FV i, .int .i64 0], FV i, .int .i64 0, pt (L0.b 0) 6, FV x.c1, FV h, FV (x.c1 * h), FV i, FV y, FV r, FV y, PV ⟨r, y⟩, .bool true, .bool true, PV ⟨r, y⟩, PV ⟨r, y⟩, PV x, PV x, .bool true, .bool true, PV ⟨r, y⟩, .bool false, undef, undef, PV ⟨r, y⟩, undef]) (fun L => [((L0.b 0), PC x), ((L0.b 1), PC ⟨r, y⟩), ((L1.b 5), FC h), ((L2.b 15), FC (-n)), ((L6.b 10), FC r), ((L9.b 7), FC y), ((L11.b 5), FC i), ((L13.b 3), PC ⟨r, y⟩)]) hp16 ⟨
      oL 7 0 rP, oT rP, oA,
      trivial⟩ (fun L16 w17 hp17 => ?_)
    refine k26 _ _ ?_
    refine wp_ret ?_
    refine k13 _ _ _ ?_
    refine k9 _ _ _ ?_
    refine k8 _ _ _ ?_
    refine bodyPost_ret (v := .tuple #[PV ⟨r, y⟩, .bool true]) ?_ rfl ?_
    · exact rct rP rfl (by kernel_rfl) (by kernel_rfl) (hp17.bound 1 rfl).2
    · exact ⟨rfl, hp17.bel⟩
  · skip
    refine wp_cond_true (by kernel_rfl) ?_
    refine gs [.det (PV ⟨r, y⟩), .det (PV (-⟨r, y⟩)), .store (.base 7) 0 (PC (-⟨r, y⟩)) (PC (-⟨r, y⟩))] [0, 1, 2] [0, 1, 3] (fun L => [PV x, pt (L0.b 0) 0, pt (L0.b 1) 0, .bool false, pt (L1.b 5) 0, .int .i64 0, pt (L2.b 15) 0, .bool true, .int .i64 0, pt (L6.b 10) 0, .bool true, pt (L9.b 7) 0, .bool true, pt (L11.b 5) 0, .int .i64 0, pt (L13.b 3) 0, .tuple #[FV h, .int .i64 0], FV 2, .tuple #[FV h, .int .i64 0], FV h, .int .i64 0, .tuple #[FV n, .bool true], pt (L0.b 0) 0, FV x.c0, pt (L0.b 0) 0, FV x.c0, FV (x.c0 * x.c0), pt (L0.b 0) 6, FV x.c1, pt (L0.b 0) 6, FV x.c1, FV (x.c1 * x.c1), FV x.norm, .tuple #[FV n, .bool true], FV n, .bool true, .bool true, .bool false, undef, .int .i64 0, .bool true, undef, undef, .tuple #[FV r, .bool true], pt (L0.b 0) 0, FV x.c0, FV n, FV (x.c0 + n), FV h, FV ((x.c0 + n) * h), .tuple #[FV r, .bool true], FV r, .bool true, FV n, FV (-n), .bool true, .bool false, .tuple #[FV m, .bool b], pt (L0.b 0) 0, FV x.c0, FV (-x.c0), .tuple #[FV m, .bool b], FV m, .bool b, FV r, FV 0, .bool true, .tuple #[FV i, .int .i64 0], FV r, .tuple #[FV i, .int .i64 0], FV i, .int .i64 0, pt (L0.b 0) 6, FV x.c1, FV h, FV (x.c1 * h), FV i, FV y, FV r, FV y, PV ⟨r, y⟩, .bool true, .bool true, PV ⟨r, y⟩, PV ⟨r, y⟩, PV x, PV x, .bool true, .bool true, PV ⟨r, y⟩, .bool true, PV ⟨r, y⟩, PV (-⟨r, y⟩), undef, undef]) (fun L => [((L0.b 0), PC x), ((L0.b 1), PC 0), ((L1.b 5), FC h), ((L2.b 15), FC (-n)), ((L6.b 10), FC r), ((L9.b 7), FC y), ((L11.b 5), FC i), ((L13.b 3), PC (-⟨r, y⟩))]) hp16 ⟨
      oL 7 0 rP, oR (ref5Neg2 R ⟨r, y⟩), oT rP,
      trivial⟩ (fun L16 w17 hp17 => ?_)
    refine k24 _ _ ?_
    refine wp_seq_k (fun K26 k26 => ?_)
    refine gs [.det (PV (-⟨r, y⟩)), .store (.base 1) 0 (PC (-⟨r, y⟩)) (PC (-⟨r, y⟩)), .det (.bool true)] [0, 1, 2] [0, 1, 3] (fun L => [PV x, pt (L0.b 0) 0, pt (L0.b 1) 0, .bool true, pt (L1.b 5) 0, .int .i64 0, pt (L2.b 15) 0, .bool true, .int .i64 0, pt (L6.b 10) 0, .bool true, pt (L9.b 7) 0, .bool true, pt (L11.b 5) 0, .int .i64 0, pt (L13.b 3) 0, .tuple #[FV h, .int .i64 0], FV 2, .tuple #[FV h, .int .i64 0], FV h, .int .i64 0, .tuple #[FV n, .bool true], pt (L0.b 0) 0, FV x.c0, pt (L0.b 0) 0, FV x.c0, FV (x.c0 * x.c0), pt (L0.b 0) 6, FV x.c1, pt (L0.b 0) 6, FV x.c1, FV (x.c1 * x.c1), FV x.norm, .tuple #[FV n, .bool true], FV n, .bool true, .bool true, .bool false, undef, .int .i64 0, .bool true, undef, undef, .tuple #[FV r, .bool true], pt (L0.b 0) 0, FV x.c0, FV n, FV (x.c0 + n), FV h, FV ((x.c0 + n) * h), .tuple #[FV r, .bool true], FV r, .bool true, FV n, FV (-n), .bool true, .bool false, .tuple #[FV m, .bool b], pt (L0.b 0) 0, FV x.c0, FV (-x.c0), .tuple #[FV m, .bool b], FV m, .bool b, FV r, FV 0, .bool true, .tuple #[FV i, .int .i64 0], FV r, .tuple #[FV i, .int .i64 0], FV i, .int .i64 0, pt (L0.b 0) 6, FV x.c1, FV h, FV (x.c1 * h), FV i, FV y, FV r, FV y, PV ⟨r, y⟩, .bool true, .bool true, PV ⟨r, y⟩, PV ⟨r, y⟩, PV x, PV x, .bool true, .bool true, PV ⟨r, y⟩, .bool true, PV ⟨r, y⟩, PV (-⟨r, y⟩), PV (-⟨r, y⟩), undef]) (fun L => [((L0.b 0), PC x), ((L0.b 1), PC (-⟨r, y⟩)), ((L1.b 5), FC h), ((L2.b 15), FC (-n)), ((L6.b 10), FC r), ((L9.b 7), FC y), ((L11.b 5), FC i), ((L13.b 3), PC (-⟨r, y⟩))]) hp17 ⟨
      oL 7 0 rP, oT rP, oA,
      trivial⟩ (fun L17 w18 hp18 => ?_)
    refine k26 _ _ ?_
    refine wp_ret ?_
    refine k13 _ _ _ ?_
    refine k9 _ _ _ ?_
    refine k8 _ _ _ ?_
    refine bodyPost_ret (v := .tuple #[PV (-⟨r, y⟩), .bool true]) ?_ rfl ?_
    · exact rct rP rfl (by kernel_rfl) (by kernel_rfl) (hp18.bound 1 rfl).2
    · exact ⟨rfl, hp18.bel⟩
set_option maxHeartbeats 4000000 in
theorem sqB (R : RefK) (x : F2) {n h m : F} {r : F} {gr : Bool} (w : World) (hq : isq x.norm = true) (hh : finv 2 = h) (hn : root x.norm = n) (hm : root (-x.c0) = m) (hb : isq (-x.c0) = true) (h0 : isq ((x.c0 + n) * h) = true) (hr : root ((x.c0 + n) * h) = r) (h00 : r = 0) (hz : (⟨r, m⟩ : F2) * ⟨r, m⟩ = x) (hG : (⟨r, m⟩ : F2).great = gr) : Calls Tryd.prog 55 #[PV x] w (Ret (.tuple #[PV (bif gr then (-⟨r, m⟩) else ⟨r, m⟩), .bool true]) w) := by
  have hp0 := Heap.start w
  go_enter Tryd.func55, Tryd.ntmps55
  refine wp_seq_k (fun K1 k1 => ?_)
  refine gs [.alloc (PC x), .alloc (PC 0), .det (.bool false)] [0, 1, 2] [0, 0, 0] (fun L => [PV x, pt (L.b 0) 0, pt (L.b 1) 0, .bool false] ++ U 91) (fun L => [(L.b 0, PC x), (L.b 1, PC 0)]) hp0 ⟨
    oB, oZ rP, oA,
    trivial⟩ (fun L0 w1 hp1 => ?_)
  refine k1 _ _ ?_
  refine wp_seq_k (fun K2 k2 => ?_)
  refine gs [.det (FV 2), .det (.tuple #[FV h, .int .i64 0]), .det (.tuple #[FV h, .int .i64 0]), .det (FV h), .det (.int .i64 0), .alloc (FC 0), .store (.new 5) 0 (FC h) (FC h), .det (.int .i64 0)] [0, 1, 2, 3, 4, 5, 6, 7] [0, 1, 3, 7, 7, 0, 47, 127] (fun L => [PV x, pt (L0.b 0) 0, pt (L0.b 1) 0, .bool false, pt (L.b 5) 0, .int .i64 0, undef, undef, undef, undef, undef, undef, undef, undef, undef, undef, .tuple #[FV h, .int .i64 0], FV 2, .tuple #[FV h, .int .i64 0], FV h, .int .i64 0] ++ U 74) (fun L => [((L0.b 0), PC x), ((L0.b 1), PC 0), (L.b 5, FC h)]) hp1 ⟨
    oR R.of2, oH (v := .tuple #[FV h, .int .i64 0]) (vs := #[FV 2]) (fun w _ _ => by have e := R.inv 2 w trivial two_ne; rw [hh] at e; exact e), oM, oX, oX, oZ rF,
    oT rF, oA,
    trivial⟩ (fun L1 w2 hp2 => ?_)
  refine k2 _ _ ?_
  refine wp_seq_k (fun K3 k3 => ?_)
  refine dr [.det (pt (L0.b 0) 0), .det (FV x.c0), .det (pt (L0.b 0) 0), .det (FV x.c0), .det (FV (x.c0 * x.c0)), .det (pt (L0.b 0) 6), .det (FV x.c1), .det (pt (L0.b 0) 6), .det (FV x.c1), .det (FV (x.c1 * x.c1)), .det (FV x.norm), .det (.tuple #[FV n, .bool true]), .det (.tuple #[FV n, .bool true]), .det (FV n), .det (.bool true), .alloc (FC 0), .store (.new 15) 0 (FC n) (FC n), .det (.bool true)] [0, 1, 2, 3, 4, 5, 6, 7, 8, 9, 10, 11, 12, 13, 14, 15, 16, 17] [0, 1, 0, 4, 15, 0, 32, 0, 128, 511, 1023, 2047, 4095, 8191, 8191, 0, 49151, 131071] (fun L => [PV x, pt (L0.b 0) 0, pt (L0.b 1) 0, .bool false, pt (L1.b 5) 0, .int .i64 0, pt (L.b 15) 0, .bool true, undef, undef, undef, undef, undef, undef, undef, undef, .tuple #[FV h, .int .i64 0], FV 2, .tuple #[FV h, .int .i64 0], FV h, .int .i64 0, .tuple #[FV n, .bool true], pt (L0.b 0) 0, FV x.c0, pt (L0.b 0) 0, FV x.c0, FV (x.c0 * x.c0), pt (L0.b 0) 6, FV x.c1, pt (L0.b 0) 6, FV x.c1, FV (x.c1 * x.c1), FV x.norm, .tuple #[FV n, .bool true], FV n, .bool true] ++ U 59) (fun L => [((L0.b 0), PC x), ((L0.b 1), PC 0), ((L1.b 5), FC h), (L.b 15, FC n)]) hp2 ⟨
    oI aP, oL 0 0 rF, oI aP, oL 0 0 rF, oR (fun w => R.mul x.c0 x.c0 w trivial), oI aP, oL 0 6 rF, oI aP, oL 0 6 rF, oR (fun w => R.mul x.c1 x.c1 w trivial), oR (fun w => R.add (x.c0 * x.c0) (x.c1 * x.c1) w trivial),
    oH (v := .tuple #[FV n, .bool true]) (vs := #[FV x.norm]) (fun w _ _ => by have e := R.sqrt x.norm w trivial; rw [hq, hn] at e; exact e), oM, oX, oX, oZ rF,
    oT rF, oA,
    trivial⟩ (fun L2 w3 hp3 => ?_)
  refine k3 _ _ ?_
  refine wp_seq_k (fun K4 k4 => ?_)
  refine wp_seq_k (fun K5 k5 => ?_)
  refine gs [.det (.bool true), .det (.bool false)] [0, 1] [0, 1] (fun L => [PV x, pt (L0.b 0) 0, pt (L0.b 1) 0, .bool false, pt (L1.b 5) 0, .int .i64 0, pt (L2.b 15) 0, .bool true, undef, undef, undef, undef, undef, undef, undef, undef, .tuple #[FV h, .int .i64 0], FV 2, .tuple #[FV h, .int .i64 0], FV h, .int .i64 0, .tuple #[FV n, .bool true], pt (L0.b 0) 0, FV x.c0, pt (L0.b 0) 0, FV x.c0, FV (x.c0 * x.c0), pt (L0.b 0) 6, FV x.c1, pt (L0.b 0) 6, FV x.c1, FV (x.c1 * x.c1), FV x.norm, .tuple #[FV n, .bool true], FV n, .bool true, .bool true, .bool false] ++ U 57) (fun L => [((L0.b 0), PC x), ((L0.b 1), PC 0), ((L1.b 5), FC h), ((L2.b 15), FC n)]) hp3 ⟨
    oM, oN,
    trivial⟩ (fun L3 w4 hp4 => ?_)
  refine k5 _ _ ?_
  refine wp_cond_false (by kernel_rfl) ?_
  refine skips ?_
  refine k4 _ _ ?_
  refine wp_seq_k (fun K6 k6 => ?_)
  refine wp_seq_k (fun K7 k7 => ?_)
  refine gs [.det (.int .i64 0)] [0] [0] (fun L => [PV x, pt (L0.b 0) 0, pt (L0.b 1) 0, .bool false, pt (L1.b 5) 0, .int .i64 0, pt (L2.b 15) 0, .bool true, .int .i64 0, undef, undef, undef, undef, undef, undef, undef, .tuple #[FV h, .int .i64 0], FV 2, .tuple #[FV h, .int .i64 0], FV h, .int .i64 0, .tuple #[FV n, .bool true], pt (L0.b 0) 0, FV x.c0, pt (L0.b 0) 0, FV x.c0, FV (x.c0 * x.c0), pt (L0.b 0) 6, FV x.c1, pt (L0.b 0) 6, FV x.c1, FV (x.c1 * x.c1), FV x.norm, .tuple #[FV n, .bool true], FV n, .bool true, .bool true, .bool false] ++ U 57) (fun L => [((L0.b 0), PC x), ((L0.b 1), PC 0), ((L1.b 5), FC h), ((L2.b 15), FC n)]) hp4 ⟨
    oA,
    trivial⟩ (fun L4 w5 hp5 => ?_)
  refine k7 _ _ ?_
  refine wp_block_k (fun K8 k8 => ?_)
  refine wp_loop_rounds 9 ?_
  refine rounds_k (fun K9 k9 => ?_)
  refine wp_seq_k (fun K10 k10 => ?_)
  refine wp_seq_k (fun K11 k11 => ?_)
  refine gs [.det (.int .i64 0), .det (.bool true)] [0, 1] [0, 1] (fun L => [PV x, pt (L0.b 0) 0, pt (L0.b 1) 0, .bool false, pt (L1.b 5) 0, .int .i64 0, pt (L2.b 15) 0, .bool true, .int .i64 0, undef, undef, undef, undef, undef, undef, undef, .tuple #[FV h, .int .i64 0], FV 2, .tuple #[FV h, .int .i64 0], FV h, .int .i64 0, .tuple #[FV n, .bool true], pt (L0.b 0) 0, FV x.c0, pt (L0.b 0) 0, FV x.c0, FV (x.c0 * x.c0), pt (L0.b 0) 6, FV x.c1, pt (L0.b 0) 6, FV x.c1, FV (x.c1 * x.c1), FV x.norm, .tuple #[FV n, .bool true], FV n, .bool true, .bool true, .bool false, undef, .int .i64 0, .bool true] ++ U 54) (fun L => [((L0.b 0), PC x), ((L0.b 1), PC 0), ((L1.b 5), FC h), ((L2.b 15), FC n)]) hp5 ⟨
    oM, oJ .i64 .i64 0 2,
    trivial⟩ (fun L5 w6 hp6 => ?_)
  refine k11 _ _ ?_
  refine wp_cond_true (by kernel_rfl) ?_
  refine skips ?_
  refine k10 _ _ ?_
  refine wp_seq_k (fun K12 k12 => ?_)
  refine wp_block_k (fun K13 k13 => ?_)
  refine wp_seq_k (fun K14 k14 => ?_)
  refine dr [.det (pt (L0.b 0) 0), .det (FV x.c0), .det (FV n), .det (FV (x.c0 + n)), .det (FV h), .det (FV ((x.c0 + n) * h)), .det (.tuple #[FV r, .bool true]), .det (.tuple #[FV r, .bool true]), .det (FV r), .det (.bool true), .alloc (FC 0), .store (.new 10) 0 (FC r) (FC r), .det (.bool true)] [0, 1, 2, 3, 4, 5, 6, 7, 8, 9, 10, 11, 12] [0, 1, 0, 7, 0, 31, 63, 127, 255, 255, 0, 1535, 4095] (fun L => [PV x, pt (L0.b 0) 0, pt (L0.b 1) 0, .bool false, pt (L1.b 5) 0, .int .i64 0, pt (L2.b 15) 0, .bool true, .int .i64 0, pt (L.b 10) 0, .bool true, undef, undef, undef, undef, undef, .tuple #[FV h, .int .i64 0], FV 2, .tuple #[FV h, .int .i64 0], FV h, .int .i64 0, .tuple #[FV n, .bool true], pt (L0.b 0) 0, FV x.c0, pt (L0.b 0) 0, FV x.c0, FV (x.c0 * x.c0), pt (L0.b 0) 6, FV x.c1, pt (L0.b 0) 6, FV x.c1, FV (x.c1 * x.c1), FV x.norm, .tuple #[FV n, .bool true], FV n, .bool true, .bool true, .bool false, undef, .int .i64 0, .bool true, undef, undef, .tuple #[FV r, .bool true], pt (L0.b 0) 0, FV x.c0, FV n, FV (x.c0 + n), FV h, FV ((x.c0 + n) * h), .tuple #[FV r, .bool true], FV r, .bool true] ++ U 42) (fun L => [((L0.b 0), PC x), ((L0.b 1), PC 0), ((L1.b 5), FC h), ((L2.b 15), FC n), (L.b 10, FC r)]) hp6 ⟨
    oI aP, oL 0 0 rF, oL 3 0 rF, oR (fun w => R.add x.c0 n w trivial), oL 2 0 rF, oR (fun w => R.mul (x.c0 + n) h w trivial), oH (v := .tuple #[FV r, .bool true]) (vs := #[FV ((x.c0 + n) * h)]) (fun w _ _ => by have e := R.sqrt ((x.c0 + n) * h) w trivial; rw [h0, hr] at e; exact e),
    oM, oX, oX, oZ rF, oT rF, oA,
    trivial⟩ (fun L6 w7 hp7 => ?_)
  refine k14 _ _ ?_
  refine wp_seq_k (fun K15 k15 => ?_)
  refine gs [.det (FV n), .det (FV (-n)), .store (.base 3) 0 (FC (-n)) (FC (-n))] [0, 1, 2] [0, 1, 3] (fun L => [PV x, pt (L0.b 0) 0, pt (L0.b 1) 0, .bool false, pt (L1.b 5) 0, .int .i64 0, pt (L2.b 15) 0, .bool true, .int .i64 0, pt (L6.b 10) 0, .bool true, undef, undef, undef, undef, undef, .tuple #[FV h, .int .i64 0], FV 2, .tuple #[FV h, .int .i64 0], FV h, .int .i64 0, .tuple #[FV n, .bool true], pt (L0.b 0) 0, FV x.c0, pt (L0.b 0) 0, FV x.c0, FV (x.c0 * x.c0), pt (L0.b 0) 6, FV x.c1, pt (L0.b 0) 6, FV x.c1, FV (x.c1 * x.c1), FV x.norm, .tuple #[FV n, .bool true], FV n, .bool true, .bool true, .bool false, undef, .int .i64 0, .bool true, undef, undef, .tuple #[FV r, .bool true], pt (L0.b 0) 0, FV x.c0, FV n, FV (x.c0 + n), FV h, FV ((x.c0 + n) * h), .tuple #[FV r, .bool true], FV r, .bool true, FV n, FV (-n)] ++ U 40) (fun L => [((L0.b 0), PC x), ((L0.b 1), PC 0), ((L1.b 5), FC h), ((L2.b 15), FC (-n)), ((L6.b 10), FC r)]) hp7 ⟨
    oL 3 0 rF, oR (fun w => R.neg n w trivial), oT rF,
    trivial⟩ (fun L7 w8 hp8 => ?_)
  refine k15 _ _ ?_
  refine wp_seq_k (fun K16 k16 => ?_)
  refine wp_seq_k (fun K17 k17 => ?_)
  refine gs [.det (.bool true), .det (.bool false)] [0, 1] [0, 1] (fun L => [PV x, pt (L0.b 0) 0, pt (L0.b 1) 0, .bool false, pt (L1.b 5) 0, .int .i64 0, pt (L2.b 15) 0, .bool true, .int .i64 0, pt (L6.b 10) 0, .bool true, undef, undef, undef, undef, undef, .tuple #[FV h, .int .i64 0], FV 2, .tuple #[FV h, .int .i64 0], FV h, .int .i64 0, .tuple #[FV n, .bool true], pt (L0.b 0) 0, FV x.c0, pt (L0.b 0) 0, FV x.c0, FV (x.c0 * x.c0), pt (L0.b 0) 6, FV x.c1, pt (L0.b 0) 6, FV x.c1, FV (x.c1 * x.c1), FV x.norm, .tuple #[FV n, .bool true], FV n, .bool true, .bool true, .bool false, undef, .int .i64 0, .bool true, undef, undef, .tuple #[FV r, .bool true], pt (L0.b 0) 0, FV x.c0, FV n, FV (x.c0 + n), FV h, FV ((x.c0 + n) * h), .tuple #[FV r, .bool true], FV r, .bool true, FV n, FV (-n), .bool true, .bool false] ++ U 38) (fun L => [((L0.b 0), PC x), ((L0.b 1), PC 0), ((L1.b 5), FC h), ((L2.b 15), FC (-n)), ((L6.b 10), FC r)]) hp8 ⟨
    oM, oN,
    trivial⟩ (fun L8 w9 hp9 => ?_)
  refine k17 _ _ ?_
  refine wp_cond_false (by kernel_rfl) ?_
  refine skips ?_
  refine k16 _ _ ?_
  refine wp_seq_k (fun K18 k18 => ?_)
  refine gs [.det (pt (L0.b 0) 0), .det (FV x.c0), .det (FV (-x.c0)), .det (.tuple #[FV m, .bool true]), .det (.tuple #[FV m, .bool true]), .det (FV m), .det (.bool true), .alloc (FC 0), .store (.new 7) 0 (FC m) (FC m), .det (.bool true)] [0, 1, 2, 3, 4, 5, 6, 7, 8, 9] [0, 1, 3, 7, 15, 31, 31, 0, 191, 511] (fun L => [PV x, pt (L0.b 0) 0, pt (L0.b 1) 0, .bool false, pt (L1.b 5) 0, .int .i64 0, pt (L2.b 15) 0, .bool true, .int .i64 0, pt (L6.b 10) 0, .bool true, pt (L.b 7) 0, .bool true, undef, undef, undef, .tuple #[FV h, .int .i64 0], FV 2, .tuple #[FV h, .int .i64 0], FV h, .int .i64 0, .tuple #[FV n, .bool true], pt (L0.b 0) 0, FV x.c0, pt (L0.b 0) 0, FV x.c0, FV (x.c0 * x.c0), pt (L0.b 0) 6, FV x.c1, pt (L0.b 0) 6, FV x.c1, FV (x.c1 * x.c1), FV x.norm, .tuple #[FV n, .bool true], FV n, .bool true, .bool true, .bool false, undef, .int .i64 0, .bool true, undef, undef, .tuple #[FV r, .bool true], pt (L0.b 0) 0, FV x.c0, FV n, FV (x.c0 + n), FV h, FV ((x.c0 + n) * h), .tuple #[FV r, .bool true], FV r, .bool true, FV n, FV (-n), .bool true, .bool false, .tuple #[FV m, .bool true], pt (L0.b 0) 0, FV x.c0, FV (-x.c0), .tuple #[FV m, .bool true], FV m, .bool true] ++ U 31) (fun L => [((L0.b 0), PC x), ((L0.b 1), PC 0), ((L1.b 5), FC h), ((L2.b 15), FC (-n)), ((L6.b 10), FC r), (L.b 7, FC m)]) hp9 ⟨
    oI aP, oL 0 0 rF, oR (fun w => R.neg x.c0 w trivial), oH (v := .tuple #[FV m, .bool true]) (vs := #[FV (-x.c0)]) (fun w _ _ => by have e := R.sqrt (-x.c0) w trivial; rw [hb, hm] at e; exact e),
    oM, oX, oX, oZ rF, oT rF, oA,
    trivial⟩ (fun L9 w10 hp10 => ?_)
  refine k18 _ _ ?_
  refine wp_seq_k (fun K19 k19 => ?_)
  refine wp_seq_k (fun K20 k20 => ?_)
  refine gs [.det (FV r), .det (FV 0), .det (.bool false)] [0, 1, 2] [0, 0, 3] (fun L => [PV x, pt (L0.b 0) 0, pt (L0.b 1) 0, .bool false, pt (L1.b 5) 0, .int .i64 0, pt (L2.b 15) 0, .bool true, .int .i64 0, pt (L6.b 10) 0, .bool true, pt (L9.b 7) 0, .bool true, undef, undef, undef, .tuple #[FV h, .int .i64 0], FV 2, .tuple #[FV h, .int .i64 0], FV h, .int .i64 0, .tuple #[FV n, .bool true], pt (L0.b 0) 0, FV x.c0, pt (L0.b 0) 0, FV x.c0, FV (x.c0 * x.c0), pt (L0.b 0) 6, FV x.c1, pt (L0.b 0) 6, FV x.c1, FV (x.c1 * x.c1), FV x.norm, .tuple #[FV n, .bool true], FV n, .bool true, .bool true, .bool false, undef, .int .i64 0, .bool true, undef, undef, .tuple #[FV r, .bool true], pt (L0.b 0) 0, FV x.c0, FV n, FV (x.c0 + n), FV h, FV ((x.c0 + n) * h), .tuple #[FV r, .bool true], FV r, .bool true, FV n, FV (-n), .bool true, .bool false, .tuple #[FV m, .bool true], pt (L0.b 0) 0, FV x.c0, FV (-x.c0), .tuple #[FV m, .bool true], FV m, .bool true, FV r, FV 0, .bool false] ++ U 28) (fun L => [((L0.b 0), PC x), ((L0.b 1), PC 0), ((L1.b 5), FC h), ((L2.b 15), FC (-n)), ((L6.b 10), FC r), ((L9.b 7), FC m)]) hp10 ⟨
    oL 4 0 rF, oD buildF0, oU (a := r) (b := 0) qF (nay' h00),
    trivial⟩ (fun L10 w11 hp11 => ?_)
  refine k20 _ _ ?_
  refine wp_cond_false (by kernel_rfl) ?_
  refine skips ?_
  refine k19 _ _ ?_
  refine wp_seq_k (fun K21 k21 => ?_)
  refine gs [.det (FV r), .det (FV m), .det (PV ⟨r, m⟩), .alloc (PC 0), .store (.new 3) 0 (PC ⟨r, m⟩) (PC ⟨r, m⟩)] [0, 1, 2, 3, 4] [0, 0, 3, 0, 15] (fun L => [PV x, pt (L0.b 0) 0, pt (L0.b 1) 0, .bool false, pt (L1.b 5) 0, .int .i64 0, pt (L2.b 15) 0, .bool true, .int .i64 0, pt (L6.b 10) 0, .bool true, pt (L9.b 7) 0, .bool true, undef, undef, pt (L.b 3) 0, .tuple #[FV h, .int .i64 0], FV 2, .tuple #[FV h, .int .i64 0], FV h, .int .i64 0, .tuple #[FV n, .bool true], pt (L0.b 0) 0, FV x.c0, pt (L0.b 0) 0, FV x.c0, FV (x.c0 * x.c0), pt (L0.b 0) 6, FV x.c1, pt (L0.b 0) 6, FV x.c1, FV (x.c1 * x.c1), FV x.norm, .tuple #[FV n, .bool true], FV n, .bool true, .bool true, .bool false, undef, .int .i64 0, .bool true, undef, undef, .tuple #[FV r, .bool true], pt (L0.b 0) 0, FV x.c0, FV n, FV (x.c0 + n), FV h, FV ((x.c0 + n) * h), .tuple #[FV r, .bool true], FV r, .bool true, FV n, FV (-n), .bool true, .bool false, .tuple #[FV m, .bool true], pt (L0.b 0) 0, FV x.c0, FV (-x.c0), .tuple #[FV m, .bool true], FV m, .bool true, FV r, FV 0, .bool false, undef, undef, undef, undef, undef, undef, undef, undef, undef, undef, undef, FV r, FV m, PV ⟨r, m⟩] ++ U 14) (fun L => [((L0.b 0), PC x), ((L0.b 1), PC 0), ((L1.b 5), FC h), ((L2.b 15), FC (-n)), ((L6.b 10), FC r), ((L9.b 7), FC m), (L.b 3, PC ⟨r, m⟩)]) hp11 ⟨
    oL 4 0 rF, oL 5 0 rF, oD (buildP r m), oZ rP, oT rP,
    trivial⟩ (fun L11 w12 hp12 => ?_)
  refine k21 _ _ ?_
  refine wp_seq_k (fun K22 k22 => ?_)
  refine dr [.det (.bool true), .det (.bool true), .det (PV ⟨r, m⟩), .det (PV ⟨r, m⟩), .det (PV x), .det (PV x), .det (.bool true), .det (.bool true)] [0, 1, 2, 3, 4, 5, 6, 7] [0, 1, 3, 3, 15, 3, 63, 127] (fun L => [PV x, pt (L0.b 0) 0, pt (L0.b 1) 0, .bool false, pt (L1.b 5) 0, .int .i64 0, pt (L2.b 15) 0, .bool true, .int .i64 0, pt (L6.b 10) 0, .bool true, pt (L9.b 7) 0, .bool true, undef, undef, pt (L11.b 3) 0, .tuple #[FV h, .int .i64 0], FV 2, .tuple #[FV h, .int .i64 0], FV h, .int .i64 0, .tuple #[FV n, .bool true], pt (L0.b 0) 0, FV x.c0, pt (L0.b 0) 0, FV x.c0, FV (x.c0 * x.c0), pt (L0.b 0) 6, FV x.c1, pt (L0.b 0) 6, FV x.c1, FV (x.c1 * x.c1), FV x.norm, .tuple #[FV n, .bool true], FV n, .bool true, .bool true, .bool false, undef, .int .i64 0, .bool true, undef, undef, .tuple #[FV r, .bool true], pt (L0.b 0) 0, FV x.c0, FV n, FV (x.c0 + n), FV h, FV ((x.c0 + n) * h), .tuple #[FV r, .bool true], FV r, .bool true, FV n, FV (-n), .bool true, .bool false, .tuple #[FV m, .bool true], pt (L0.b 0) 0, FV x.c0, FV (-x.c0), .tuple #[FV m, .bool true], FV m, .bool true, FV r, FV 0, .bool false, undef, undef, undef, undef, undef, undef, undef, undef, undef, undef, undef, FV r, FV m, PV ⟨r, m⟩, .bool true, .bool true, PV ⟨r, m⟩, PV ⟨r, m⟩, PV x, PV x, .bool true, .bool true] ++ U 6) (fun L => [((L0.b 0), PC x), ((L0.b 1), PC 0), ((L1.b 5), FC h), ((L2.b 15), FC (-n)), ((L6.b 10), FC r), ((L9.b 7), FC m), ((L11.b 3), PC ⟨r, m⟩)]) hp12 ⟨
    oM, oM, oL 6 0 rP, oL 6 0 rP, oH (v := PV x) (vs := #[PV ⟨r, m⟩, PV ⟨r, m⟩]) (fun w _ _ => by have e := ref5Mul2 R ⟨r, m⟩ ⟨r, m⟩ w; rw [hz] at e; exact e), oL 0 0 rP,
    oE (a := x) (b := x) qP (yes rfl), oP,
    trivial⟩ (fun L12 w13 hp13 => ?_)
  refine k22 _ _ ?_
  refine wp_cond_true (by kernel_rfl) ?_
  refine wp_seq_k (fun K23 k23 => ?_)
  refine wp_seq_k (fun K24 k24 => ?_)
  refine gs [.det (PV ⟨r, m⟩), .det (.bool gr)] [0, 1] [0, 1] (fun L => [PV x, pt (L0.b 0) 0, pt (L0.b 1) 0, .bool false, pt (L1.b 5) 0, .int .i64 0, pt (L2.b 15) 0, .bool true, .int .i64 0, pt (L6.b 10) 0, .bool true, pt (L9.b 7) 0, .bool true, undef, undef, pt (L11.b 3) 0, .tuple #[FV h, .int .i64 0], FV 2, .tuple #[FV h, .int .i64 0], FV h, .int .i64 0, .tuple #[FV n, .bool true], pt (L0.b 0) 0, FV x.c0, pt (L0.b 0) 0, FV x.c0, FV (x.c0 * x.c0), pt (L0.b 0) 6, FV x.c1, pt (L0.b 0) 6, FV x.c1, FV (x.c1 * x.c1), FV x.norm, .tuple #[FV n, .bool true], FV n, .bool true, .bool true, .bool false, undef, .int .i64 0, .bool true, undef, undef, .tuple #[FV r, .bool true], pt (L0.b 0) 0, FV x.c0, FV n, FV (x.c0 + n), FV h, FV ((x.c0 + n) * h), .tuple #[FV r, .bool true], FV r, .bool true, FV n, FV (-n), .bool true, .bool false, .tuple #[FV m, .bool true], pt (L0.b 0) 0, FV x.c0, FV (-x.c0), .tuple #[FV m, .bool true], FV m, .bool true, FV r, FV 0, .bool false, undef, undef, undef, undef, undef, undef, undef, undef, undef, undef, undef, FV r, FV m, PV ⟨r, m⟩, .bool true, .bool true, PV ⟨r, m⟩, PV ⟨r, m⟩, PV x, PV x, .bool true, .bool true, PV ⟨r, m⟩, .bool gr] ++ U 4) (fun L => [((L0.b 0), PC x), ((L0.b 1), PC 0), ((L1.b 5), FC h), ((L2.b 15), FC (-n)), ((L6.b 10), FC r), ((L9.b 7), FC m), ((L11.b 3), PC ⟨r, m⟩)]) hp13 ⟨
    oL 6 0 rP, oH (v := .bool gr) (vs := #[PV ⟨r, m⟩]) (fun w _ _ => by have e := ref5Great2 R ⟨r, m⟩ w; rw [hG] at e; exact e),
    trivial⟩ (fun L13 w14 hp14 => ?_)
  refine k24 _ _ ?_
  cases gr
  · skip
    refine wp_cond_false (by kernel_rfl) ?_
    refine skips ?_
    refine k23 _ _ ?_
    refine wp_seq_k (fun K25 k25 => ?_)
    refine gs [.det (PV ⟨r, m⟩), .store (.base 1) 0 (PC ⟨r, m⟩) (PC ⟨r, m⟩), .det (.bool true)] [0, 1, 2] [0, 1, 3] (fun L => [PV x, pt (L0.b 0) 0, pt (L0.b 1) 0, .bool true, pt (L1.b 5) 0, .int .i64 0, pt (L2.b 15) 0, .bool true, .int .i64 0, pt (L6.b 10) 0, .bool true, pt (L9.b 7) 0, .bool true, undef, undef, pt (L11.b 3) 0, .tuple #[FV h, .int .i64 0], FV 2, .tuple #[FV h, .int .i64 0], FV h, .int .i64 0, .tuple #[FV n, .bool true], pt (L0.b 0) 0, FV x.c0, pt (L0.b 0) 0, FV x.c0, FV (x.c0 * x.c0), pt (L0.b 0) 6, FV x.c1, pt (L0.b 0) 6, FV x.c1, FV (x.c1 * x.c1), FV x.norm, .tuple #[FV n, .bool true], FV n, .bool true, .bool true, .bool false, undef, .int .i64 0, .bool true, undef, undef, .tuple #[FV r, .bool true], pt (L0.b 0) 0, FV x.c0, FV n, FV (x.c0 + n), FV h, FV ((x.c0 + n) * h), .tuple #[FV r, .bool true], FV r, .bool true, FV n, FV (-n), .bool true, .bool false, .tuple #[FV m, .bool true], pt (L0.b 0) 0, FV x.c0, FV (-x.c0), .tuple #[FV m, .bool true], FV m, .bool true, FV r, FV 0, .bool false, undef, undef, undef, undef, undef, undef, undef, undef, undef, undef, undef, FV r, FV m, PV ⟨r, m⟩, .bool true, .bool true, PV ⟨r, m⟩, PV ⟨r, m⟩, PV x, PV x, .bool true, .bool true, PV ⟨r, m⟩, .bool false, undef, undef, PV ⟨r, m⟩, undef]) (fun L => [((L0.b 0), PC x), ((L0.b 1), PC ⟨r, m⟩), ((L1.b 5), FC h), ((L2.b 15), FC (-n)), ((L6.b 10), FC r), ((L9.b 7), FC m), ((L11.b 3), PC ⟨r, m⟩)]) hp14 ⟨
      oL 6 0 rP, oT rP, oA,
      trivial⟩ (fun L14 w15 hp15 => ?_)
    refine k25 _ _ ?_
    refine wp_ret ?_
    refine k13 _ _ _ ?_
    refine k9 _ _ _ ?_
    refine k8 _ _ _ ?_
    refine bodyPost_ret (v := .tuple #[PV ⟨r, m⟩, .bool true]) ?_ rfl ?_
    · exact rct rP rfl (by kernel_rfl) (by kernel_rfl) (hp15.bound 1 rfl).2
    · exact ⟨rfl, hp15.bel⟩
  · skip
    refine wp_cond_true (by kernel_rfl) ?_
    refine gs [.det (PV ⟨r, m⟩), .det (PV (-⟨r, m⟩)), .store (.base 6) 0 (PC (-⟨r, m⟩)) (PC (-⟨r, m⟩))] [0, 1, 2] [0, 1, 3] (fun L => [PV x, pt (L0.b 0) 0, pt (L0.b 1) 0, .bool false, pt (L1.b 5) 0, .int .i64 0, pt (L2.b 15) 0, .bool true, .int .i64 0, pt (L6.b 10) 0, .bool true, pt (L9.b 7) 0, .bool true, undef, undef, pt (L11.b 3) 0, .tuple #[FV h, .int .i64 0], FV 2, .tuple #[FV h, .int .i64 0], FV h, .int .i64 0, .tuple #[FV n, .bool true], pt (L0.b 0) 0, FV x.c0, pt (L0.b 0) 0, FV x.c0, FV (x.c0 * x.c0), pt (L0.b 0) 6, FV x.c1, pt (L0.b 0) 6, FV x.c1, FV (x.c1 * x.c1), FV x.norm, .tuple #[FV n, .bool true], FV n, .bool true, .bool true, .bool false, undef, .int .i64 0, .bool true, undef, undef, .tuple #[FV r, .bool true], pt (L0.b 0) 0, FV x.c0, FV n, FV (x.c0 + n), FV h, FV ((x.c0 + n) * h), .tuple #[FV r, .bool true], FV r, .bool true, FV n, FV (-n), .bool true, .bool false, .tuple #[FV m, .bool true], pt (L0.b 0) 0, FV x.c0, FV (-x.c0), .tuple #[FV m, .bool true], FV m, .bool true, FV r, FV 0, .bool false, undef, undef, undef, undef, undef, undef, undef, undef, undef, undef, undef, FV r, FV m, PV ⟨r, m⟩, .bool true, .bool true, PV ⟨r, m⟩, PV ⟨r, m⟩, PV x, PV x, .bool true, .bool true, PV ⟨r, m⟩, .bool true, PV ⟨r, m⟩, PV (-⟨r, m⟩), undef, undef]) (fun L => [((L0.b 0), PC x), ((L0.b 1), PC 0), ((L1.b 5), FC h), ((L2.b 15), FC (-n)), ((L6.b 10), FC r), ((L9.b 7), FC m), ((L11.b 3), PC (-⟨r, m⟩))]) hp14 ⟨
      oL 6 0 rP, oR (ref5Neg2 R ⟨r, m⟩), oT rP,
      trivial⟩ (fun L14 w15 hp15 => ?_)
    refine k23 _ _ ?_
    refine wp_seq_k (fun K25 k25 => ?_)
    refine gs [.det (PV (-⟨r, m⟩)), .store (.base 1) 0 (PC (-⟨r, m⟩)) (PC (-⟨r, m⟩)), .det (.bool true)] [0, 1, 2] [0, 1, 3] (fun L => [PV x, pt (L0.b 0) 0, pt (L0.b 1) 0, .bool true, pt (L1.b 5) 0, .int .i64 0, pt (L2.b 15) 0, .bool true, .int .i64 0, pt (L6.b 10) 0, .bool true, pt (L9.b 7) 0, .bool true, undef, undef, pt (L11.b 3) 0, .tuple #[FV h, .int .i64 0], FV 2, .tuple #[FV h, .int .i64 0], FV h, .int .i64 0, .tuple #[FV n, .bool true], pt (L0.b 0) 0, FV x.c0, pt (L0.b 0) 0, FV x.c0, FV (x.c0 * x.c0), pt (L0.b 0) 6, FV x.c1, pt (L0.b 0) 6, FV x.c1, FV (x.c1 * x.c1), FV x.norm, .tuple #[FV n, .bool true], FV n, .bool true, .bool true, .bool false, undef, .int .i64 0, .bool true, undef, undef, .tuple #[FV r, .bool true], pt (L0.b 0) 0, FV x.c0, FV n, FV (x.c0 + n), FV h, FV ((x.c0 + n) * h), .tuple #[FV r, .bool true], FV r, .bool true, FV n, FV (-n), .bool true, .bool false, .tuple #[FV m, .bool true], pt (L0.b 0) 0, FV x.c0, FV (-x.c0), .tuple #[FV m, .bool true], FV m, .bool true, FV r, FV 0, .bool false, undef, undef, undef, undef, undef, undef, undef, undef, undef, undef, undef, FV r, FV m, PV ⟨r, m⟩, .bool true, .bool true, PV ⟨r, m⟩, PV ⟨r, m⟩, PV x, PV x, .bool true, .bool true, PV ⟨r, m⟩, .bool true, PV ⟨r, m⟩, PV (-⟨r, m⟩), PV (-⟨r, m⟩), undef]) (fun L => [((L0.b 0), PC x), ((L0.b 1), PC (-⟨r, m⟩)), ((L1.b 5), FC h), ((L2.b 15), FC (-n)), ((L6.b 10), FC r), ((L9.b 7), FC m), ((L11.b 3), PC (-⟨r, m⟩))]) hp15 ⟨
      oL 6 0 rP, oT rP, oA,
      trivial⟩ (fun L15 w16 hp16 => ?_)
    refine k25 _ _ ?_
    refine wp_ret ?_
    refine k13 _ _ _ ?_
    refine k9 _ _ _ ?_
    refine k8 _ _ _ ?_
    refine bodyPost_ret (v := .tuple #[PV (-⟨r, m⟩), .bool true]) ?_ rfl ?_
    · exact rct rP rfl (by kernel_rfl) (by kernel_rfl) (hp16.bound 1 rfl).2
    · exact ⟨rfl, hp16.bel⟩
end Go.Proofs.YthehnlpgmkjefaaDoor.fpn

/- The reference's roots of pairs: more of its paths. -/
namespace Go.Proofs.YthehnlpgmkjefaaDoor.fpn
open Go.RowKit Pl
set_option linter.unusedVariables false
set_option linter.unusedSimpArgs false
set_option maxRecDepth 4000

set_option maxHeartbeats 4000000 in
theorem sqC (R : RefK) (x : F2) {n h m : F} {r0 r i y : F} {gr : Bool} (w : World) (hq : isq x.norm = true) (hh : finv 2 = h) (hn : root x.norm = n) (hm : root (-x.c0) = m) (hb : isq (-x.c0) = false) (h0 : isq ((x.c0 + n) * h) = true) (hr0 : root ((x.c0 + n) * h) = r0) (h00 : r0 = 0) (h1 : isq ((x.c0 + (-n)) * h) = true) (hr : root ((x.c0 + (-n)) * h) = r) (hi : r ≠ 0) (hj : finv r = i) (hy : x.c1 * h * i = y) (hz : (⟨r, y⟩ : F2) * ⟨r, y⟩ = x) (hG : (⟨r, y⟩ : F2).great = gr) : Calls Tryd.prog 55 #[PV x] w (Ret (.tuple #[PV (bif gr then (-⟨r, y⟩) else ⟨r, y⟩), .bool true]) w) := by
  have hp0 := Heap.start w
  go_enter Tryd.func55, Tryd.ntmps55
  refine wp_seq_k (fun K1 k1 => ?_)
  refine gs [.alloc (PC x), .alloc (PC 0), .det (.bool false)] [0, 1, 2] [0, 0, 0] (fun L => [PV x, pt (L.b 0) 0, pt (L.b 1) 0, .bool false] ++ U 91) (fun L => [(L.b 0, PC x), (L.b 1, PC 0)]) hp0 ⟨
    oB, oZ rP, oA,
    trivial⟩ (fun L0 w1 hp1 => ?_)
  refine k1 _ _ ?_
  refine wp_seq_k (fun K2 k2 => ?_)
  refine gs [.det (FV 2), .det (.tuple #[FV h, .int .i64 0]), .det (.tuple #[FV h, .int .i64 0]), .det (FV h), .det (.int .i64 0), .alloc (FC 0), .store (.new 5) 0 (FC h) (FC h), .det (.int .i64 0)] [0, 1, 2, 3, 4, 5, 6, 7] [0, 1, 3, 7, 7, 0, 47, 127] (fun L => [PV x, pt (L0.b 0) 0, pt (L0.b 1) 0, .bool false, pt (L.b 5) 0, .int .i64 0, undef, undef, undef, undef, undef, undef, undef, undef, undef, undef, .tuple #[FV h, .int .i64 0], FV 2, .tuple #[FV h, .int .i64 0], FV h, .int .i64 0] ++ U 74) (fun L => [((L0.b 0), PC x), ((L0.b 1), PC 0), (L.b 5, FC h)]) hp1 ⟨
    oR R.of2, oH (v := .tuple #[FV h, .int .i64 0]) (vs := #[FV 2]) (fun w _ _ => by have e := R.inv 2 w trivial two_ne; rw [hh] at e; exact e), oM, oX, oX, oZ rF,
    oT rF, oA,
    trivial⟩ (fun L1 w2 hp2 => ?_)
  refine k2 _ _ ?_
  refine wp_seq_k (fun K3 k3 => ?_)
  refine dr [.det (pt (L0.b 0) 0), .det (FV x.c0), .det (pt (L0.b 0) 0), .det (FV x.c0), .det (FV (x.c0 * x.c0)), .det (pt (L0.b 0) 6), .det (FV x.c1), .det (pt (L0.b 0) 6), .det (FV x.c1), .det (FV (x.c1 * x.c1)), .det (FV x.norm), .det (.tuple #[FV n, .bool true]), .det (.tuple #[FV n, .bool true]), .det (FV n), .det (.bool true), .alloc (FC 0), .store (.new 15) 0 (FC n) (FC n), .det (.bool true)] [0, 1, 2, 3, 4, 5, 6, 7, 8, 9, 10, 11, 12, 13, 14, 15, 16, 17] [0, 1, 0, 4, 15, 0, 32, 0, 128, 511, 1023, 2047, 4095, 8191, 8191, 0, 49151, 131071] (fun L => [PV x, pt (L0.b 0) 0, pt (L0.b 1) 0, .bool false, pt (L1.b 5) 0, .int .i64 0, pt (L.b 15) 0, .bool true, undef, undef, undef, undef, undef, undef, undef, undef, .tuple #[FV h, .int .i64 0], FV 2, .tuple #[FV h, .int .i64 0], FV h, .int .i64 0, .tuple #[FV n, .bool true], pt (L0.b 0) 0, FV x.c0, pt (L0.b 0) 0, FV x.c0, FV (x.c0 * x.c0), pt (L0.b 0) 6, FV x.c1, pt (L0.b 0) 6, FV x.c1, FV (x.c1 * x.c1), FV x.norm, .tuple #[FV n, .bool true], FV n, .bool true] ++ U 59) (fun L => [((L0.b 0), PC x), ((L0.b 1), PC 0), ((L1.b 5), FC h), (L.b 15, FC n)]) hp2 ⟨
    oI aP, oL 0 0 rF, oI aP, oL 0 0 rF, oR (fun w => R.mul x.c0 x.c0 w trivial), oI aP, oL 0 6 rF, oI aP, oL 0 6 rF, oR (fun w => R.mul x.c1 x.c1 w trivial), oR (fun w => R.add (x.c0 * x.c0) (x.c1 * x.c1) w trivial),
    oH (v := .tuple #[FV n, .bool true]) (vs := #[FV x.norm]) (fun w _ _ => by have e := R.sqrt x.norm w trivial; rw [hq, hn] at e; exact e), oM, oX, oX, oZ rF,
    oT rF, oA,
    trivial⟩ (fun L2 w3 hp3 => ?_)
  refine k3 _ _ ?_
  refine wp_seq_k (fun K4 k4 => ?_)
  refine wp_seq_k (fun K5 k5 => ?_)
  refine gs [.det (.bool true), .det (.bool false)] [0, 1] [0, 1] (fun L => [PV x, pt (L0.b 0) 0, pt (L0.b 1) 0, .bool false, pt (L1.b 5) 0, .int .i64 0, pt (L2.b 15) 0, .bool true, undef, undef, undef, undef, undef, undef, undef, undef, .tuple #[FV h, .int .i64 0], FV 2, .tuple #[FV h, .int .i64 0], FV h, .int .i64 0, .tuple #[FV n, .bool true], pt (L0.b 0) 0, FV x.c0, pt (L0.b 0) 0, FV x.c0, FV (x.c0 * x.c0), pt (L0.b 0) 6, FV x.c1, pt (L0.b 0) 6, FV x.c1, FV (x.c1 * x.c1), FV x.norm, .tuple #[FV n, .bool true], FV n, .bool true, .bool true, .bool false] ++ U 57) (fun L => [((L0.b 0), PC x), ((L0.b 1), PC 0), ((L1.b 5), FC h), ((L2.b 15), FC n)]) hp3 ⟨
    oM, oN,
    trivial⟩ (fun L3 w4 hp4 => ?_)
  refine k5 _ _ ?_
  refine wp_cond_false (by kernel_rfl) ?_
  refine skips ?_
  refine k4 _ _ ?_
  refine wp_seq_k (fun K6 k6 => ?_)
  refine wp_seq_k (fun K7 k7 => ?_)
  refine gs [.det (.int .i64 0)] [0] [0] (fun L => [PV x, pt (L0.b 0) 0, pt (L0.b 1) 0, .bool false, pt (L1.b 5) 0, .int .i64 0, pt (L2.b 15) 0, .bool true, .int .i64 0, undef, undef, undef, undef, undef, undef, undef, .tuple #[FV h, .int .i64 0], FV 2, .tuple #[FV h, .int .i64 0], FV h, .int .i64 0, .tuple #[FV n, .bool true], pt (L0.b 0) 0, FV x.c0, pt (L0.b 0) 0, FV x.c0, FV (x.c0 * x.c0), pt (L0.b 0) 6, FV x.c1, pt (L0.b 0) 6, FV x.c1, FV (x.c1 * x.c1), FV x.norm, .tuple #[FV n, .bool true], FV n, .bool true, .bool true, .bool false] ++ U 57) (fun L => [((L0.b 0), PC x), ((L0.b 1), PC 0), ((L1.b 5), FC h), ((L2.b 15), FC n)]) hp4 ⟨
    oA,
    trivial⟩ (fun L4 w5 hp5 => ?_)
  refine k7 _ _ ?_
  refine wp_block_k (fun K8 k8 => ?_)
  refine wp_loop_rounds 9 ?_
  refine rounds_k (fun K9 k9 => ?_)
  refine wp_seq_k (fun K10 k10 => ?_)
  refine wp_seq_k (fun K11 k11 => ?_)
  refine gs [.det (.int .i64 0), .det (.bool true)] [0, 1] [0, 1] (fun L => [PV x, pt (L0.b 0) 0, pt (L0.b 1) 0, .bool false, pt (L1.b 5) 0, .int .i64 0, pt (L2.b 15) 0, .bool true, .int .i64 0, undef, undef, undef, undef, undef, undef, undef, .tuple #[FV h, .int .i64 0], FV 2, .tuple #[FV h, .int .i64 0], FV h, .int .i64 0, .tuple #[FV n, .bool true], pt (L0.b 0) 0, FV x.c0, pt (L0.b 0) 0, FV x.c0, FV (x.c0 * x.c0), pt (L0.b 0) 6, FV x.c1, pt (L0.b 0) 6, FV x.c1, FV (x.c1 * x.c1), FV x.norm, .tuple #[FV n, .bool true], FV n, .bool true, .bool true, .bool false, undef, .int .i64 0, .bool true] ++ U 54) (fun L => [((L0.b 0), PC x), ((L0.b 1), PC 0), ((L1.b 5), FC h), ((L2.b 15), FC n)]) hp5 ⟨
    oM, oJ .i64 .i64 0 2,
    trivial⟩ (fun L5 w6 hp6 => ?_)
  refine k11 _ _ ?_
  refine wp_cond_true (by kernel_rfl) ?_
  refine skips ?_
  refine k10 _ _ ?_
  refine wp_seq_k (fun K12 k12 => ?_)
  refine wp_block_k (fun K13 k13 => ?_)
  refine wp_seq_k (fun K14 k14 => ?_)
  refine dr [.det (pt (L0.b 0) 0), .det (FV x.c0), .det (FV n), .det (FV (x.c0 + n)), .det (FV h), .det (FV ((x.c0 + n) * h)), .det (.tuple #[FV r0, .bool true]), .det (.tuple #[FV r0, .bool true]), .det (FV r0), .det (.bool true), .alloc (FC 0), .store (.new 10) 0 (FC r0) (FC r0), .det (.bool true)] [0, 1, 2, 3, 4, 5, 6, 7, 8, 9, 10, 11, 12] [0, 1, 0, 7, 0, 31, 63, 127, 255, 255, 0, 1535, 4095] (fun L => [PV x, pt (L0.b 0) 0, pt (L0.b 1) 0, .bool false, pt (L1.b 5) 0, .int .i64 0, pt (L2.b 15) 0, .bool true, .int .i64 0, pt (L.b 10) 0, .bool true, undef, undef, undef, undef, undef, .tuple #[FV h, .int .i64 0], FV 2, .tuple #[FV h, .int .i64 0], FV h, .int .i64 0, .tuple #[FV n, .bool true], pt (L0.b 0) 0, FV x.c0, pt (L0.b 0) 0, FV x.c0, FV (x.c0 * x.c0), pt (L0.b 0) 6, FV x.c1, pt (L0.b 0) 6, FV x.c1, FV (x.c1 * x.c1), FV x.norm, .tuple #[FV n, .bool true], FV n, .bool true, .bool true, .bool false, undef, .int .i64 0, .bool true, undef, undef, .tuple #[FV r0, .bool true], pt (L0.b 0) 0, FV x.c0, FV n, FV (x.c0 + n), FV h, FV ((x.c0 + n) * h), .tuple #[FV r0, .bool true], FV r0, .bool true] ++ U 42) (fun L => [((L0.b 0), PC x), ((L0.b 1), PC 0), ((L1.b 5), FC h), ((L2.b 15), FC n), (L.b 10, FC r0)]) hp6 ⟨
    oI aP, oL 0 0 rF, oL 3 0 rF, oR (fun w => R.add x.c0 n w trivial), oL 2 0 rF, oR (fun w => R.mul (x.c0 + n) h w trivial), oH (v := .tuple #[FV r0, .bool true]) (vs := #[FV ((x.c0 + n) * h)]) (fun w _ _ => by have e := R.sqrt ((x.c0 + n) * h) w trivial; rw [h0, hr0] at e; exact e),
    oM, oX, oX, oZ rF, oT rF, oA,
    trivial⟩ (fun L6 w7 hp7 => ?_)
  refine k14 _ _ ?_
  refine wp_seq_k (fun K15 k15 => ?_)
  refine gs [.det (FV n), .det (FV (-n)), .store (.base 3) 0 (FC (-n)) (FC (-n))] [0, 1, 2] [0, 1, 3] (fun L => [PV x, pt (L0.b 0) 0, pt (L0.b 1) 0, .bool false, pt (L1.b 5) 0, .int .i64 0, pt (L2.b 15) 0, .bool true, .int .i64 0, pt (L6.b 10) 0, .bool true, undef, undef, undef, undef, undef, .tuple #[FV h, .int .i64 0], FV 2, .tuple #[FV h, .int .i64 0], FV h, .int .i64 0, .tuple #[FV n, .bool true], pt (L0.b 0) 0, FV x.c0, pt (L0.b 0) 0, FV x.c0, FV (x.c0 * x.c0), pt (L0.b 0) 6, FV x.c1, pt (L0.b 0) 6, FV x.c1, FV (x.c1 * x.c1), FV x.norm, .tuple #[FV n, .bool true], FV n, .bool true, .bool true, .bool false, undef, .int .i64 0, .bool true, undef, undef, .tuple #[FV r0, .bool true], pt (L0.b 0) 0, FV x.c0, FV n, FV (x.c0 + n), FV h, FV ((x.c0 + n) * h), .tuple #[FV r0, .bool true], FV r0, .bool true, FV n, FV (-n)] ++ U 40) (fun L => [((L0.b 0), PC x), ((L0.b 1), PC 0), ((L1.b 5), FC h), ((L2.b 15), FC (-n)), ((L6.b 10), FC r0)]) hp7 ⟨
    oL 3 0 rF, oR (fun w => R.neg n w trivial), oT rF,
    trivial⟩ (fun L7 w8 hp8 => ?_)
  refine k15 _ _ ?_
  refine wp_seq_k (fun K16 k16 => ?_)
  refine wp_seq_k (fun K17 k17 => ?_)
  refine gs [.det (.bool true), .det (.bool false)] [0, 1] [0, 1] (fun L => [PV x, pt (L0.b 0) 0, pt (L0.b 1) 0, .bool false, pt (L1.b 5) 0, .int .i64 0, pt (L2.b 15) 0, .bool true, .int .i64 0, pt (L6.b 10) 0, .bool true, undef, undef, undef, undef, undef, .tuple #[FV h, .int .i64 0], FV 2, .tuple #[FV h, .int .i64 0], FV h, .int .i64 0, .tuple #[FV n, .bool true], pt (L0.b 0) 0, FV x.c0, pt (L0.b 0) 0, FV x.c0, FV (x.c0 * x.c0), pt (L0.b 0) 6, FV x.c1, pt (L0.b 0) 6, FV x.c1, FV (x.c1 * x.c1), FV x.norm, .tuple #[FV n, .bool true], FV n, .bool true, .bool true, .bool false, undef, .int .i64 0, .bool true, undef, undef, .tuple #[FV r0, .bool true], pt (L0.b 0) 0, FV x.c0, FV n, FV (x.c0 + n), FV h, FV ((x.c0 + n) * h), .tuple #[FV r0, .bool true], FV r0, .bool true, FV n, FV (-n), .bool true, .bool false] ++ U 38) (fun L => [((L0.b 0), PC x), ((L0.b 1), PC 0), ((L1.b 5), FC h), ((L2.b 15), FC (-n)), ((L6.b 10), FC r0)]) hp8 ⟨
    oM, oN,
    trivial⟩ (fun L8 w9 hp9 => ?_)
  refine k17 _ _ ?_
  refine wp_cond_false (by kernel_rfl) ?_
  refine skips ?_
  refine k16 _ _ ?_
  refine wp_seq_k (fun K18 k18 => ?_)
  refine gs [.det (pt (L0.b 0) 0), .det (FV x.c0), .det (FV (-x.c0)), .det (.tuple #[FV m, .bool false]), .det (.tuple #[FV m, .bool false]), .det (FV m), .det (.bool false), .alloc (FC 0), .store (.new 7) 0 (FC m) (FC m), .det (.bool false)] [0, 1, 2, 3, 4, 5, 6, 7, 8, 9] [0, 1, 3, 7, 15, 31, 31, 0, 191, 511] (fun L => [PV x, pt (L0.b 0) 0, pt (L0.b 1) 0, .bool false, pt (L1.b 5) 0, .int .i64 0, pt (L2.b 15) 0, .bool true, .int .i64 0, pt (L6.b 10) 0, .bool true, pt (L.b 7) 0, .bool false, undef, undef, undef, .tuple #[FV h, .int .i64 0], FV 2, .tuple #[FV h, .int .i64 0], FV h, .int .i64 0, .tuple #[FV n, .bool true], pt (L0.b 0) 0, FV x.c0, pt (L0.b 0) 0, FV x.c0, FV (x.c0 * x.c0), pt (L0.b 0) 6, FV x.c1, pt (L0.b 0) 6, FV x.c1, FV (x.c1 * x.c1), FV x.norm, .tuple #[FV n, .bool true], FV n, .bool true, .bool true, .bool false, undef, .int .i64 0, .bool true, undef, undef, .tuple #[FV r0, .bool true], pt (L0.b 0) 0, FV x.c0, FV n, FV (x.c0 + n), FV h, FV ((x.c0 + n) * h), .tuple #[FV r0, .bool true], FV r0, .bool true, FV n, FV (-n), .bool true, .bool false, .tuple #[FV m, .bool false], pt (L0.b 0) 0, FV x.c0, FV (-x.c0), .tuple #[FV m, .bool false], FV m, .bool false] ++ U 31) (fun L => [((L0.b 0), PC x), ((L0.b 1), PC 0), ((L1.b 5), FC h), ((L2.b 15), FC (-n)), ((L6.b 10), FC r0), (L.b 7, FC m)]) hp9 ⟨
    oI aP, oL 0 0 rF, oR (fun w => R.neg x.c0 w trivial), oH (v := .tuple #[FV m, .bool false]) (vs := #[FV (-x.c0)]) (fun w _ _ => by have e := R.sqrt (-x.c0) w trivial; rw [hb, hm] at e; exact e),
    oM, oX, oX, oZ rF, oT rF, oA,
    trivial⟩ (fun L9 w10 hp10 => ?_)
  refine k18 _ _ ?_
  refine wp_seq_k (fun K19 k19 => ?_)
  refine wp_seq_k (fun K20 k20 => ?_)
  refine gs [.det (FV r0), .det (FV 0), .det (.bool false)] [0, 1, 2] [0, 0, 3] (fun L => [PV x, pt (L0.b 0) 0, pt (L0.b 1) 0, .bool false, pt (L1.b 5) 0, .int .i64 0, pt (L2.b 15) 0, .bool true, .int .i64 0, pt (L6.b 10) 0, .bool true, pt (L9.b 7) 0, .bool false, undef, undef, undef, .tuple #[FV h, .int .i64 0], FV 2, .tuple #[FV h, .int .i64 0], FV h, .int .i64 0, .tuple #[FV n, .bool true], pt (L0.b 0) 0, FV x.c0, pt (L0.b 0) 0, FV x.c0, FV (x.c0 * x.c0), pt (L0.b 0) 6, FV x.c1, pt (L0.b 0) 6, FV x.c1, FV (x.c1 * x.c1), FV x.norm, .tuple #[FV n, .bool true], FV n, .bool true, .bool true, .bool false, undef, .int .i64 0, .bool true, undef, undef, .tuple #[FV r0, .bool true], pt (L0.b 0) 0, FV x.c0, FV n, FV (x.c0 + n), FV h, FV ((x.c0 + n) * h), .tuple #[FV r0, .bool true], FV r0, .bool true, FV n, FV (-n), .bool true, .bool false, .tuple #[FV m, .bool false], pt (L0.b 0) 0, FV x.c0, FV (-x.c0), .tuple #[FV m, .bool false], FV m, .bool false, FV r0, FV 0, .bool false] ++ U 28) (fun L => [((L0.b 0), PC x), ((L0.b 1), PC 0), ((L1.b 5), FC h), ((L2.b 15), FC (-n)), ((L6.b 10), FC r0), ((L9.b 7), FC m)]) hp10 ⟨
    oL 4 0 rF, oD buildF0, oU (a := r0) (b := 0) qF (nay' h00),
    trivial⟩ (fun L10 w11 hp11 => ?_)
  refine k20 _ _ ?_
  refine wp_cond_false (by kernel_rfl) ?_
  refine skips ?_
  refine k19 _ _ ?_
  refine wp_seq_k (fun K21 k21 => ?_)
  refine gs [.det (FV r0), .det (FV m), .det (PV ⟨r0, m⟩), .alloc (PC 0), .store (.new 3) 0 (PC ⟨r0, m⟩) (PC ⟨r0, m⟩)] [0, 1, 2, 3, 4] [0, 0, 3, 0, 15] (fun L => [PV x, pt (L0.b 0) 0, pt (L0.b 1) 0, .bool false, pt (L1.b 5) 0, .int .i64 0, pt (L2.b 15) 0, .bool true, .int .i64 0, pt (L6.b 10) 0, .bool true, pt (L9.b 7) 0, .bool false, undef, undef, pt (L.b 3) 0, .tuple #[FV h, .int .i64 0], FV 2, .tuple #[FV h, .int .i64 0], FV h, .int .i64 0, .tuple #[FV n, .bool true], pt (L0.b 0) 0, FV x.c0, pt (L0.b 0) 0, FV x.c0, FV (x.c0 * x.c0), pt (L0.b 0) 6, FV x.c1, pt (L0.b 0) 6, FV x.c1, FV (x.c1 * x.c1), FV x.norm, .tuple #[FV n, .bool true], FV n, .bool true, .bool true, .bool false, undef, .int .i64 0, .bool true, undef, undef, .tuple #[FV r0, .bool true], pt (L0.b 0) 0, FV x.c0, FV n, FV (x.c0 + n), FV h, FV ((x.c0 + n) * h), .tuple #[FV r0, .bool true], FV r0, .bool true, FV n, FV (-n), .bool true, .bool false, .tuple #[FV m, .bool false], pt (L0.b 0) 0, FV x.c0, FV (-x.c0), .tuple #[FV m, .bool false], FV m, .bool false, FV r0, FV 0, .bool false, undef, undef, undef, undef, undef, undef, undef, undef, undef, undef, undef, FV r0, FV m, PV ⟨r0, m⟩] ++ U 14) (fun L => [((L0.b 0), PC x), ((L0.b 1), PC 0), ((L1.b 5), FC h), ((L2.b 15), FC (-n)), ((L6.b 10), FC r0), ((L9.b 7), FC m), (L.b 3, PC ⟨r0, m⟩)]) hp11 ⟨
    oL 4 0 rF, oL 5 0 rF, oD (buildP r0 m), oZ rP, oT rP,
    trivial⟩ (fun L11 w12 hp12 => ?_)
  refine k21 _ _ ?_
  refine wp_seq_k (fun K22 k22 => ?_)
  refine dr [.det (.bool false), .det (.bool false), .det undef, .det undef, .det undef, .det undef, .det undef, .det (.bool false)] [0, 1, 2, 3, 4, 5, 6, 7] [0, 1, 3, 3, 15, 3, 63, 127] (fun L => [PV x, pt (L0.b 0) 0, pt (L0.b 1) 0, .bool false, pt (L1.b 5) 0, .int .i64 0, pt (L2.b 15) 0, .bool true, .int .i64 0, pt (L6.b 10) 0, .bool true, pt (L9.b 7) 0, .bool false, undef, undef, pt (L11.b 3) 0, .tuple #[FV h, .int .i64 0], FV 2, .tuple #[FV h, .int .i64 0], FV h, .int .i64 0, .tuple #[FV n, .bool true], pt (L0.b 0) 0, FV x.c0, pt (L0.b 0) 0, FV x.c0, FV (x.c0 * x.c0), pt (L0.b 0) 6, FV x.c1, pt (L0.b 0) 6, FV x.c1, FV (x.c1 * x.c1), FV x.norm, .tuple #[FV n, .bool true], FV n, .bool true, .bool true, .bool false, undef, .int .i64 0, .bool true, undef, undef, .tuple #[FV r0, .bool true], pt (L0.b 0) 0, FV x.c0, FV n, FV (x.c0 + n), FV h, FV ((x.c0 + n) * h), .tuple #[FV r0, .bool true], FV r0, .bool true, FV n, FV (-n), .bool true, .bool false, .tuple #[FV m, .bool false], pt (L0.b 0) 0, FV x.c0, FV (-x.c0), .tuple #[FV m, .bool false], FV m, .bool false, FV r0, FV 0, .bool false, undef, undef, undef, undef, undef, undef, undef, undef, undef, undef, undef, FV r0, FV m, PV ⟨r0, m⟩, .bool false, .bool false, undef, undef, undef, undef, undef, .bool false] ++ U 6) (fun L => [((L0.b 0), PC x), ((L0.b 1), PC 0), ((L1.b 5), FC h), ((L2.b 15), FC (-n)), ((L6.b 10), FC r0), ((L9.b 7), FC m), ((L11.b 3), PC ⟨r0, m⟩)]) hp12 ⟨
    oM, oM, oS, oS, oS, oS, oS, oP,
    trivial⟩ (fun L12 w13 hp13 => ?_)
  refine k22 _ _ ?_
  refine wp_cond_false (by kernel_rfl) ?_
  refine skips ?_
  refine k13 _ _ _ ?_
  refine block_normal ?_
  refine k12 _ _ ?_
  refine gs [.det (.int .i64 0), .det (.int .i64 1), .det (.int .i64 1)] [0, 1, 2] [0, 1, 3] (fun L => [PV x, pt (L0.b 0) 0, pt (L0.b 1) 0, .bool false, pt (L1.b 5) 0, .int .i64 0, pt (L2.b 15) 0, .bool true, .int .i64 1, pt (L6.b 10) 0, .bool true, pt (L9.b 7) 0, .bool false, undef, undef, pt (L11.b 3) 0, .tuple #[FV h, .int .i64 0], FV 2, .tuple #[FV h, .int .i64 0], FV h, .int .i64 0, .tuple #[FV n, .bool true], pt (L0.b 0) 0, FV x.c0, pt (L0.b 0) 0, FV x.c0, FV (x.c0 * x.c0), pt (L0.b 0) 6, FV x.c1, pt (L0.b 0) 6, FV x.c1, FV (x.c1 * x.c1), FV x.norm, .tuple #[FV n, .bool true], FV n, .bool true, .bool true, .bool false, undef, .int .i64 0, .bool true, .int .i64 0, .int .i64 1, .tuple #[FV r0, .bool true], pt (L0.b 0) 0, FV x.c0, FV n, FV (x.c0 + n), FV h, FV ((x.c0 + n) * h), .tuple #[FV r0, .bool true], FV r0, .bool true, FV n, FV (-n), .bool true, .bool false, .tuple #[FV m, .bool false], pt (L0.b 0) 0, FV x.c0, FV (-x.c0), .tuple #[FV m, .bool false], FV m, .bool false, FV r0, FV 0, .bool false, undef, undef, undef, undef, undef, undef, undef, undef, undef, undef, undef, FV r0, FV m, PV ⟨r0, m⟩, .bool false, .bool false, undef, undef, undef, undef, undef, .bool false] ++ U 6) (fun L => [((L0.b 0), PC x), ((L0.b 1), PC 0), ((L1.b 5), FC h), ((L2.b 15), FC (-n)), ((L6.b 10), FC r0), ((L9.b 7), FC m), ((L11.b 3), PC ⟨r0, m⟩)]) hp13 ⟨
    oM, oJ .i64 .i64 0 1, oA,
    trivial⟩ (fun L13 w14 hp14 => ?_)
  refine k9 _ _ _ ?_
  refine then_normal ?_
  refine rounds_k (fun K23 k23 => ?_)
  refine wp_seq_k (fun K24 k24 => ?_)
  refine wp_seq_k (fun K25 k25 => ?_)
  refine gs [.det (.int .i64 1), .det (.bool true)] [0, 1] [0, 1] (fun L => [PV x, pt (L0.b 0) 0, pt (L0.b 1) 0, .bool false, pt (L1.b 5) 0, .int .i64 0, pt (L2.b 15) 0, .bool true, .int .i64 1, pt (L6.b 10) 0, .bool true, pt (L9.b 7) 0, .bool false, undef, undef, pt (L11.b 3) 0, .tuple #[FV h, .int .i64 0], FV 2, .tuple #[FV h, .int .i64 0], FV h, .int .i64 0, .tuple #[FV n, .bool true], pt (L0.b 0) 0, FV x.c0, pt (L0.b 0) 0, FV x.c0, FV (x.c0 * x.c0), pt (L0.b 0) 6, FV x.c1, pt (L0.b 0) 6, FV x.c1, FV (x.c1 * x.c1), FV x.norm, .tuple #[FV n, .bool true], FV n, .bool true, .bool true, .bool false, undef, .int .i64 1, .bool true, .int .i64 0, .int .i64 1, .tuple #[FV r0, .bool true], pt (L0.b 0) 0, FV x.c0, FV n, FV (x.c0 + n), FV h, FV ((x.c0 + n) * h), .tuple #[FV r0, .bool true], FV r0, .bool true, FV n, FV (-n), .bool true, .bool false, .tuple #[FV m, .bool false], pt (L0.b 0) 0, FV x.c0, FV (-x.c0), .tuple #[FV m, .bool false], FV m, .bool false, FV r0, FV 0, .bool false, undef, undef, undef, undef, undef, undef, undef, undef, undef, undef, undef, FV r0, FV m, PV ⟨r0, m⟩, .bool false, .bool false, undef, undef, undef, undef, undef, .bool false] ++ U 6) (fun L => [((L0.b 0), PC x), ((L0.b 1), PC 0), ((L1.b 5), FC h), ((L2.b 15), FC (-n)), ((L6.b 10), FC r0), ((L9.b 7), FC m), ((L11.b 3), PC ⟨r0, m⟩)]) hp14 ⟨
    oM, oJ .i64 .i64 1 2,
    trivial⟩ (fun L14 w15 hp15 => ?_)
  refine k25 _ _ ?_
  refine wp_cond_true (by kernel_rfl) ?_
  refine skips ?_
  refine k24 _ _ ?_
  refine wp_seq_k (fun K26 k26 => ?_)
  refine wp_block_k (fun K27 k27 => ?_)
  refine wp_seq_k (fun K28 k28 => ?_)
  refine dr [.det (pt (L0.b 0) 0), .det (FV x.c0), .det (FV (-n)), .det (FV (x.c0 + (-n))), .det (FV h), .det (FV ((x.c0 + (-n)) * h)), .det (.tuple #[FV r, .bool true]), .det (.tuple #[FV r, .bool true]), .det (FV r), .det (.bool true), .alloc (FC 0), .store (.new 10) 0 (FC r) (FC r), .det (.bool true)] [0, 1, 2, 3, 4, 5, 6, 7, 8, 9, 10, 11, 12] [0, 1, 0, 7, 0, 31, 63, 127, 255, 255, 0, 1535, 4095] (fun L => [PV x, pt (L0.b 0) 0, pt (L0.b 1) 0, .bool false, pt (L1.b 5) 0, .int .i64 0, pt (L2.b 15) 0, .bool true, .int .i64 1, pt (L.b 10) 0, .bool true, pt (L9.b 7) 0, .bool false, undef, undef, pt (L11.b 3) 0, .tuple #[FV h, .int .i64 0], FV 2, .tuple #[FV h, .int .i64 0], FV h, .int .i64 0, .tuple #[FV n, .bool true], pt (L0.b 0) 0, FV x.c0, pt (L0.b 0) 0, FV x.c0, FV (x.c0 * x.c0), pt (L0.b 0) 6, FV x.c1, pt (L0.b 0) 6, FV x.c1, FV (x.c1 * x.c1), FV x.norm, .tuple #[FV n, .bool true], FV n, .bool true, .bool true, .bool false, undef, .int .i64 1, .bool true, .int .i64 0, .int .i64 1, .tuple #[FV r, .bool true], pt (L0.b 0) 0, FV x.c0, FV (-n), FV (x.c0 + (-n)), FV h, FV ((x.c0 + (-n)) * h), .tuple #[FV r, .bool true], FV r, .bool true, FV n, FV (-n), .bool true, .bool false, .tuple #[FV m, .bool false], pt (L0.b 0) 0, FV x.c0, FV (-x.c0), .tuple #[FV m, .bool false], FV m, .bool false, FV r0, FV 0, .bool false, undef, undef, undef, undef, undef, undef, undef, undef, undef, undef, undef, FV r0, FV m, PV ⟨r0, m⟩, .bool false, .bool false, undef, undef, undef, undef, undef, .bool false] ++ U 6) (fun L => [((L0.b 0), PC x), ((L0.b 1), PC 0), ((L1.b 5), FC h), ((L2.b 15), FC (-n)), ((L6.b 10), FC r0), ((L9.b 7), FC m), ((L11.b 3), PC ⟨r0, m⟩), (L.b 10, FC r)]) hp15 ⟨
    oI aP, oL 0 0 rF, oL 3 0 rF, oR (fun w => R.add x.c0 (-n) w trivial), oL 2 0 rF, oR (fun w => R.mul (x.c0 + (-n)) h w trivial), oH (v := .tuple #[FV r, .bool true]) (vs := #[FV ((x.c0 + (-n)) * h)]) (fun w _ _ => by have e := R.sqrt ((x.c0 + (-n)) * h) w trivial; rw [h1, hr] at e; exact e),
    oM, oX, oX, oZ rF, oT rF, oA,
    trivial⟩ (fun L15 w16 hp16 => ?_)
  refine k28 _ _ ?_
  refine wp_seq_k (fun K29 k29 => ?_)
  refine gs [.det (FV (-n)), .det (FV (-(-n))), .store (.base 3) 0 (FC (-(-n))) (FC (-(-n)))] [0, 1, 2] [0, 1, 3] (fun L => [PV x, pt (L0.b 0) 0, pt (L0.b 1) 0, .bool false, pt (L1.b 5) 0, .int .i64 0, pt (L2.b 15) 0, .bool true, .int .i64 1, pt (L15.b 10) 0, .bool true, pt (L9.b 7) 0, .bool false, undef, undef, pt (L11.b 3) 0, .tuple #[FV h, .int .i64 0], FV 2, .tuple #[FV h, .int .i64 0], FV h, .int .i64 0, .tuple #[FV n, .bool true], pt (L0.b 0) 0, FV x.c0, pt (L0.b 0) 0, FV x.c0, FV (x.c0 * x.c0), pt (L0.b 0) 6, FV x.c1, pt (L0.b 0) 6, FV x.c1, FV (x.c1 * x.c1), FV x.norm, .tuple #[FV n, .bool true], FV n, .bool true, .bool true, .bool false, undef, .int .i64 1, .bool true, .int .i64 0, .int .i64 1, .tuple #[FV r, .bool true], pt (L0.b 0) 0, FV x.c0, FV (-n), FV (x.c0 + (-n)), FV h, FV ((x.c0 + (-n)) * h), .tuple #[FV r, .bool true], FV r, .bool true, FV (-n), FV (-(-n)), .bool true, .bool false, .tuple #[FV m, .bool false], pt (L0.b 0) 0, FV x.c0, FV (-x.c0), .tuple #[FV m, .bool false], FV m, .bool false, FV r0, FV 0, .bool false, undef, undef, undef, undef, undef, undef, undef, undef, undef, undef, undef, FV r0, FV m, PV ⟨r0, m⟩, .bool false, .bool false, undef, undef, undef, undef, undef, .bool false] ++ U 6) (fun L => [((L0.b 0), PC x), ((L0.b 1), PC 0), ((L1.b 5), FC h), ((L2.b 15), FC (-(-n))), ((L6.b 10), FC r0), ((L9.b 7), FC m), ((L11.b 3), PC ⟨r0, m⟩), ((L15.b 10), FC r)]) hp16 ⟨
    oL 3 0 rF, oR (fun w => R.neg (-n) w trivial), oT rF,
    trivial⟩ (fun L16 w17 hp17 => ?_)
  refine k29 _ _ ?_
  refine wp_seq_k (fun K30 k30 => ?_)
  refine wp_seq_k (fun K31 k31 => ?_)
  refine gs [.det (.bool true), .det (.bool false)] [0, 1] [0, 1] (fun L => [PV x, pt (L0.b 0) 0, pt (L0.b 1) 0, .bool false, pt (L1.b 5) 0, .int .i64 0, pt (L2.b 15) 0, .bool true, .int .i64 1, pt (L15.b 10) 0, .bool true, pt (L9.b 7) 0, .bool false, undef, undef, pt (L11.b 3) 0, .tuple #[FV h, .int .i64 0], FV 2, .tuple #[FV h, .int .i64 0], FV h, .int .i64 0, .tuple #[FV n, .bool true], pt (L0.b 0) 0, FV x.c0, pt (L0.b 0) 0, FV x.c0, FV (x.c0 * x.c0), pt (L0.b 0) 6, FV x.c1, pt (L0.b 0) 6, FV x.c1, FV (x.c1 * x.c1), FV x.norm, .tuple #[FV n, .bool true], FV n, .bool true, .bool true, .bool false, undef, .int .i64 1, .bool true, .int .i64 0, .int .i64 1, .tuple #[FV r, .bool true], pt (L0.b 0) 0, FV x.c0, FV (-n), FV (x.c0 + (-n)), FV h, FV ((x.c0 + (-n)) * h), .tuple #[FV r, .bool true], FV r, .bool true, FV (-n), FV (-(-n)), .bool true, .bool false, .tuple #[FV m, .bool false], pt (L0.b 0) 0, FV x.c0, FV (-x.c0), .tuple #[FV m, .bool false], FV m, .bool false, FV r0, FV 0, .bool false, undef, undef, undef, undef, undef, undef, undef, undef, undef, undef, undef, FV r0, FV m, PV ⟨r0, m⟩, .bool false, .bool false, undef, undef, undef, undef, undef, .bool false] ++ U 6) (fun L => [((L0.b 0), PC x), ((L0.b 1), PC 0), ((L1.b 5), FC h), ((L2.b 15), FC (-(-n))), ((L6.b 10), FC r0), ((L9.b 7), FC m), ((L11.b 3), PC ⟨r0, m⟩), ((L15.b 10), FC r)]) hp17 ⟨
    oM, oN,
    trivial⟩ (fun L17 w18 hp18 => ?_)
  refine k31 _ _ ?_
  refine wp_cond_false (by kernel_rfl) ?_
  refine skips ?_
  refine k30 _ _ ?_
  refine wp_seq_k (fun K32 k32 => ?_)
  refine gs [.det (pt (L0.b 0) 0), .det (FV x.c0), .det (FV (-x.c0)), .det (.tuple #[FV m, .bool false]), .det (.tuple #[FV m, .bool false]), .det (FV m), .det (.bool false), .alloc (FC 0), .store (.new 7) 0 (FC m) (FC m), .det (.bool false)] [0, 1, 2, 3, 4, 5, 6, 7, 8, 9] [0, 1, 3, 7, 15, 31, 31, 0, 191, 511] (fun L => [PV x, pt (L0.b 0) 0, pt (L0.b 1) 0, .bool false, pt (L1.b 5) 0, .int .i64 0, pt (L2.b 15) 0, .bool true, .int .i64 1, pt (L15.b 10) 0, .bool true, pt (L.b 7) 0, .bool false, undef, undef, pt (L11.b 3) 0, .tuple #[FV h, .int .i64 0], FV 2, .tuple #[FV h, .int .i64 0], FV h, .int .i64 0, .tuple #[FV n, .bool true], pt (L0.b 0) 0, FV x.c0, pt (L0.b 0) 0, FV x.c0, FV (x.c0 * x.c0), pt (L0.b 0) 6, FV x.c1, pt (L0.b 0) 6, FV x.c1, FV (x.c1 * x.c1), FV x.norm, .tuple #[FV n, .bool true], FV n, .bool true, .bool true, .bool false, undef, .int .i64 1, .bool true, .int .i64 0, .int .i64 1, .tuple #[FV r, .bool true], pt (L0.b 0) 0, FV x.c0, FV (-n), FV (x.c0 + (-n)), FV h, FV ((x.c0 + (-n)) * h), .tuple #[FV r, .bool true], FV r, .bool true, FV (-n), FV (-(-n)), .bool true, .bool false, .tuple #[FV m, .bool false], pt (L0.b 0) 0, FV x.c0, FV (-x.c0), .tuple #[FV m, .bool false], FV m, .bool false, FV r0, FV 0, .bool false, undef, undef, undef, undef, undef, undef, undef, undef, undef, undef, undef, FV r0, FV m, PV ⟨r0, m⟩, .bool false, .bool false, undef, undef, undef, undef, undef, .bool false] ++ U 6) (fun L => [((L0.b 0), PC x), ((L0.b 1), PC 0), ((L1.b 5), FC h), ((L2.b 15), FC (-(-n))), ((L6.b 10), FC r0), ((L9.b 7), FC m), ((L11.b 3), PC ⟨r0, m⟩), ((L15.b 10), FC r), (L.b 7, FC m)]) hp18 ⟨
    oI aP, oL 0 0 rF, oR (fun w => R.neg x.c0 w trivial), oH (v := .tuple #[FV m, .bool false]) (vs := #[FV (-x.c0)]) (fun w _ _ => by have e := R.sqrt (-x.c0) w trivial; rw [hb, hm] at e; exact e),
    oM, oX, oX, oZ rF, oT rF, oA,
    trivial⟩ (fun L18 w19 hp19 => ?_)
  refine k32 _ _ ?_
  refine wp_seq_k (fun K33 k33 => ?_)
  refine wp_seq_k (fun K34 k34 => ?_)
  refine gs [.det (FV r), .det (FV 0), .det (.bool true)] [0, 1, 2] [0, 0, 3] (fun L => [PV x, pt (L0.b 0) 0, pt (L0.b 1) 0, .bool false, pt (L1.b 5) 0, .int .i64 0, pt (L2.b 15) 0, .bool true, .int .i64 1, pt (L15.b 10) 0, .bool true, pt (L18.b 7) 0, .bool false, undef, undef, pt (L11.b 3) 0, .tuple #[FV h, .int .i64 0], FV 2, .tuple #[FV h, .int .i64 0], FV h, .int .i64 0, .tuple #[FV n, .bool true], pt (L0.b 0) 0, FV x.c0, pt (L0.b 0) 0, FV x.c0, FV (x.c0 * x.c0), pt (L0.b 0) 6, FV x.c1, pt (L0.b 0) 6, FV x.c1, FV (x.c1 * x.c1), FV x.norm, .tuple #[FV n, .bool true], FV n, .bool true, .bool true, .bool false, undef, .int .i64 1, .bool true, .int .i64 0, .int .i64 1, .tuple #[FV r, .bool true], pt (L0.b 0) 0, FV x.c0, FV (-n), FV (x.c0 + (-n)), FV h, FV ((x.c0 + (-n)) * h), .tuple #[FV r, .bool true], FV r, .bool true, FV (-n), FV (-(-n)), .bool true, .bool false, .tuple #[FV m, .bool false], pt (L0.b 0) 0, FV x.c0, FV (-x.c0), .tuple #[FV m, .bool false], FV m, .bool false, FV r, FV 0, .bool true, undef, undef, undef, undef, undef, undef, undef, undef, undef, undef, undef, FV r0, FV m, PV ⟨r0, m⟩, .bool false, .bool false, undef, undef, undef, undef, undef, .bool false] ++ U 6) (fun L => [((L0.b 0), PC x), ((L0.b 1), PC 0), ((L1.b 5), FC h), ((L2.b 15), FC (-(-n))), ((L6.b 10), FC r0), ((L9.b 7), FC m), ((L11.b 3), PC ⟨r0, m⟩), ((L15.b 10), FC r), ((L18.b 7), FC m)]) hp19 ⟨
    oL 7 0 rF, oD buildF0, oU (a := r) (b := 0) qF (yes' hi),
    trivial⟩ (fun L19 w20 hp20 => ?_)
  refine k34 _ _ ?_
  refine wp_cond_true (by kernel_rfl) ?_
  refine wp_seq_k (fun K35 k35 => ?_)
  refine gs [.det (FV r), .det (.tuple #[FV i, .int .i64 0]), .det (.tuple #[FV i, .int .i64 0]), .det (FV i), .det (.int .i64 0), .alloc (FC 0), .store (.new 5) 0 (FC i) (FC i), .det (.int .i64 0)] [0, 1, 2, 3, 4, 5, 6, 7] [0, 1, 3, 7, 7, 0, 47, 127] (fun L => [PV x, pt (L0.b 0) 0, pt (L0.b 1) 0, .bool false, pt (L1.b 5) 0, .int .i64 0, pt (L2.b 15) 0, .bool true, .int .i64 1, pt (L15.b 10) 0, .bool true, pt (L18.b 7) 0, .bool false, pt (L.b 5) 0, .int .i64 0, pt (L11.b 3) 0, .tuple #[FV h, .int .i64 0], FV 2, .tuple #[FV h, .int .i64 0], FV h, .int .i64 0, .tuple #[FV n, .bool true], pt (L0.b 0) 0, FV x.c0, pt (L0.b 0) 0, FV x.c0, FV (x.c0 * x.c0), pt (L0.b 0) 6, FV x.c1, pt (L0.b 0) 6, FV x.c1, FV (x.c1 * x.c1), FV x.norm, .tuple #[FV n, .bool true], FV n, .bool true, .bool true, .bool false, undef, .int .i64 1, .bool true, .int .i64 0, .int .i64 1, .tuple #[FV r, .bool true], pt (L0.b 0) 0, FV x.c0, FV (-n), FV (x.c0 + (-n)), FV h, FV ((x.c0 + (-n)) * h), .tuple #[FV r, .bool true], FV r, .bool true, FV (-n), FV (-(-n)), .bool true, .bool false, .tuple #[FV m, .bool false], pt (L0.b 0) 0, FV x.c0, FV (-x.c0), .tuple #[FV m, .bool false], FV m, .bool false, FV r, FV 0, .bool true, .tuple #[FV i, .int .i64 0], FV r, .tuple #[FV i, .int .i64 0], FV i, .int .i64 0, undef, undef, undef, undef, undef, undef, FV r0, FV m, PV ⟨r0, m⟩, .bool false, .bool false, undef, undef, undef, undef, undef, .bool false] ++ U 6) (fun L => [((L0.b 0), PC x), ((L0.b 1), PC 0), ((L1.b 5), FC h), ((L2.b 15), FC (-(-n))), ((L6.b 10), FC r0), ((L9.b 7), FC m), ((L11.b 3), PC ⟨r0, m⟩), ((L15.b 10), FC r), ((L18.b 7), FC m), (L.b 5, FC i)]) hp20 ⟨
    oL 7 0 rF, oH (v := .tuple #[FV i, .int .i64 0]) (vs := #[FV r]) (fun w _ _ => by have e := R.inv r w trivial hi; rw [hj] at e; exact e), oM, oX, oX, oZ rF,
    oT rF, oA,
    trivial⟩ (fun L20 w21 hp21 => ?_)
  refine k35 _ _ ?_
  refine dr [.det (pt (L0.b 0) 6), .det (FV x.c1), .det (FV h), .det (FV (x.c1 * h)), .det (FV i), .det (FV y), .store (.base 8) 0 (FC y) (FC y), .det (.bool true)] [0, 1, 2, 3, 4, 5, 6, 7] [0, 1, 0, 7, 0, 31, 63, 127] (fun L => [PV x, pt (L0.b 0) 0, pt (L0.b 1) 0, .bool false, pt (L1.b 5) 0, .int .i64 0, pt (L2.b 15) 0, .bool true, .int .i64 1, pt (L15.b 10) 0, .bool true, pt (L18.b 7) 0, .bool true, pt (L20.b 5) 0, .int .i64 0, pt (L11.b 3) 0, .tuple #[FV h, .int .i64 0], FV 2, .tuple #[FV h, .int .i64 0], FV h, .int .i64 0, .tuple #[FV n, .bool true], pt (L0.b 0) 0, FV x.c0, pt (L0.b 0) 0, FV x.c0, FV (x.c0 * x.c0), pt (L0.b 0) 6, FV x.c1, pt (L0.b 0) 6, FV x.c1, FV (x.c1 * x.c1), FV x.norm, .tuple #[FV n, .bool true], FV n, .bool true, .bool true, .bool false, undef, .int .i64 1, .bool true, .int .i64 0, .int .i64 1, .tuple #[FV r, .bool true], pt (L0.b 0) 0, FV x.c0, FV (-n), FV (x.c0 + (-n)), FV h, FV ((x.c0 + (-n)) * h), .tuple #[FV r, .bool true], FV r, .bool true, FV (-n), FV (-(-n)), .bool true, .bool false, .tuple #[FV m, .bool false], pt (L0.b 0) 0, FV x.c0, FV (-x.c0), .tuple #[FV m, .bool false], FV m, .bool false, FV r, FV 0, .bool true, .tuple #[FV i, .int .i64 0], FV r, .tuple #[FV i, .int .i64 0], FV i, .int .i64 0, pt (L0.b 0) 6, FV x.c1, FV h, FV (x.c1 * h), FV i, FV y, FV r0, FV m, PV ⟨r0, m⟩, .bool false, .bool false, undef, undef, undef, undef, undef, .bool false] ++ U 6) (fun L => [((L0.b 0), PC x), ((L0.b 1), PC 0), ((L1.b 5), FC h), ((L2.b 15), FC (-(-n))), ((L6.b 10), FC r0), ((L9.b 7), FC m), ((L11.b 3), PC ⟨r0, m⟩), ((L15.b 10), FC r), ((L18.b 7), FC y), ((L20.b 5), FC i)]) hp21 ⟨
    oI aP, oL 0 6 rF, oL 2 0 rF, oR (fun w => R.mul x.c1 h w trivial), oL 9 0 rF, oH (v := FV y) (vs := #[FV (x.c1 * h), FV i]) (fun w _ _ => by have e := R.mul (x.c1 * h) i w trivial; rw [hy] at e; exact e),
    oT rF, oA,
    trivial⟩ (fun L21 w22 hp22 => ?_)
  refine k33 _ _ ?_
  refine wp_seq_k (fun K36 k36 => ?_)
  refine gs [.det (FV r), .det (FV y), .det (PV ⟨r, y⟩), .alloc (PC 0), .store (.new 3) 0 (PC ⟨r, y⟩) (PC ⟨r, y⟩)] [0, 1, 2, 3, 4] [0, 0, 3, 0, 15] (fun L => [PV x, pt (L0.b 0) 0, pt (L0.b 1) 0, .bool false, pt (L1.b 5) 0, .int .i64 0, pt (L2.b 15) 0, .bool true, .int .i64 1, pt (L15.b 10) 0, .bool true, pt (L18.b 7) 0, .bool true, pt (L20.b 5) 0, .int .i64 0, pt (L.b 3) 0, .tuple #[FV h, .int .i64 0], FV 2, .tuple #[FV h, .int .i64 0], FV h, .int .i64 0, .tuple #[FV n, .bool true], pt (L0.b 0) 0, FV x.c0, pt (L0.b 0) 0, FV x.c0, FV (x.c0 * x.c0), pt (L0.b 0) 6, FV x.c1, pt (L0.b 0) 6, FV x.c1, FV (x.c1 * x.c1), FV x.norm, .tuple #[FV n, .bool true], FV n, .bool true, .bool true, .bool false, undef, .int .i64 1, .bool true, .int .i64 0, .int .i64 1, .tuple #[FV r, .bool true], pt (L0.b 0) 0, FV x.c0, FV (-n), FV (x.c0 + (-n)), FV h, FV ((x.c0 + (-n)) * h), .tuple #[FV r, .bool true], FV r, .bool true, FV (-n), FV (-(-n)), .bool true, .bool false, .tuple #[FV m, .bool false], pt (L0.b 0) 0, FV x.c0, FV (-x.c0), .tuple #[FV m, .bool false], FV m, .bool false, FV r, FV 0, .bool true, .tuple #[FV i, .int .i64 0], FV r, .tuple #[FV i, .int .i64 0], FV i, .int .i64 0, pt (L0.b 0) 6, FV x.c1, FV h, FV (x.c1 * h), FV i, FV y, FV r, FV y, PV ⟨r, y⟩, .bool false, .bool false, undef, undef, undef, undef, undef, .bool false] ++ U 6) (fun L => [((L0.b 0), PC x), ((L0.b 1), PC 0), ((L1.b 5), FC h), ((L2.b 15), FC (-(-n))), ((L6.b 10), FC r0), ((L9.b 7), FC m), ((L11.b 3), PC ⟨r0, m⟩), ((L15.b 10), FC r), ((L18.b 7), FC y), ((L20.b 5), FC i), (L.b 3, PC ⟨r, y⟩)]) hp22 ⟨
    oL 7 0 rF, oL 8 0 rF, oD (buildP r y), oZ rP, oT rP,
    trivial⟩ (fun L22 w23 hp23 => ?_)
  refine k36 _ _ ?_
  refine wp_seq_k (fun K37 k37 => ?_)
  refine dr [.det (.bool true), .det (.bool true), .det (PV ⟨r, y⟩), .det (PV ⟨r, y⟩), .det (PV x), .det (PV x), .det (.bool true), .det (.bool true)] [0, 1, 2, 3, 4, 5, 6, 7] [0, 1, 3, 3, 15, 3, 63, 127] (fun L => [PV x, pt (L0.b 0) 0, pt (L0.b 1) 0, .bool false, pt (L1.b 5) 0, .int .i64 0, pt (L2.b 15) 0, .bool true, .int .i64 1, pt (L15.b 10) 0, .bool true, pt (L18.b 7) 0, .bool true, pt (L20.b 5) 0, .int .i64 0, pt (L22.b 3) 0, .tuple #[FV h, .int .i64 0], FV 2, .tuple #[FV h, .int .i64 0], FV h, .int .i64 0, .tuple #[FV n, .bool true], pt (L0.b 0) 0, FV x.c0, pt (L0.b 0) 0, FV x.c0, FV (x.c0 * x.c0), pt (L0.b 0) 6, FV x.c1, pt (L0.b 0) 6, FV x.c1, FV (x.c1 * x.c1), FV x.norm, .tuple #[FV n, .bool true], FV n, .bool true, .bool true, .bool false, undef, .int .i64 1, .bool true, .int .i64 0, .int .i64 1, .tuple #[FV r, .bool true], pt (L0.b 0) 0, FV x.c0, FV (-n), FV (x.c0 + (-n)), FV h, FV ((x.c0 + (-n)) * h), .tuple #[FV r, .bool true], FV r, .bool true, FV (-n), FV (-(-n)), .bool true, .bool false, .tuple #[FV m, .bool false], pt (L0.b 0) 0, FV x.c0, FV (-x.c0), .tuple #[FV m, .bool false], FV m, .bool false, FV r, FV 0, .bool true, .tuple #[FV i, .int .i64 0], FV r, .tuple #[FV i, .int .i64 0], FV i, .int .i64 0, pt (L0.b 0) 6, FV x.c1, FV h, FV (x.c1 * h), FV i, FV y, FV r, FV y, PV ⟨r, y⟩, .bool true, .bool true, PV ⟨r, y⟩, PV ⟨r, y⟩, PV x, PV x, .bool true, .bool true] ++ U 6) (fun L => [((L0.b 0), PC x), ((L0.b 1), PC 0), ((L1.b 5), FC h), ((L2.b 15), FC (-(-n))), ((L6.b 10), FC r0), ((L9.b 7), FC m), ((L11.b 3), PC ⟨r0, m⟩), ((L15.b 10), FC r), ((L18.b 7), FC y), ((L20.b 5), FC i), ((L22.b 3), PC ⟨r, y⟩)]) hp23 ⟨
    oM, oM, oL 10 0 rP, oL 10 0 rP, oH (v := PV x) (vs := #[PV ⟨r, y⟩, PV ⟨r, y⟩]) (fun w _ _ => by have e := ref5Mul2 R ⟨r, y⟩ ⟨r, y⟩ w; rw [hz] at e; exact e),
    oL 0 0 rP, oE (a := x) (b := x) qP (yes rfl), oP,
    trivial⟩ (fun L23 w24 hp24 => ?_)
  refine k37 _ _ ?_
  refine wp_cond_true (by kernel_rfl) ?_
  refine wp_seq_k (fun K38 k38 => ?_)
  refine wp_seq_k (fun K39 k39 => ?_)
  refine gs [.det (PV ⟨r, y⟩), .det (.bool gr)] [0, 1] [0, 1] (fun L => [PV x, pt (L0.b 0) 0, pt (L0.b 1) 0, .bool false, pt (L1.b 5) 0, .int .i64 0, pt (L2.b 15) 0, .bool true, .int .i64 1, pt (L15.b 10) 0, .bool true, pt (L18.b 7) 0, .bool true, pt (L20.b 5) 0, .int .i64 0, pt (L22.b 3) 0, .tuple #[FV h, .int .i64 0], FV 2, .tuple #[FV h, .int .i64 0], FV h, .int .i64 0, .tuple #[FV n, .bool true], pt (L0.b 0) 0, FV x.c0, pt (L0.b 0) 0, FV x.c0, FV (x.c0 * x.c0), pt (L0.b 0) 6, FV x.c1, pt (L0.b 0) 6, FV x.c1, FV (x.c1 * x.c1), FV x.norm, .tuple #[FV n, .bool true], FV n, .bool true, .bool true, .bool false, undef, .int .i64 1, .bool true, .int .i64 0, .int .i64 1, .tuple #[FV r, .bool true], pt (L0.b 0) 0, FV x.c0, FV (-n), FV (x.c0 + (-n)), FV h, FV ((x.c0 + (-n)) * h), .tuple #[FV r, .bool true], FV r, .bool true, FV (-n), FV (-(-n)), .bool true, .bool false, .tuple #[FV m, .bool false], pt (L0.b 0) 0, FV x.c0, FV (-x.c0), .tuple #[FV m, .bool false], FV m, .bool false, FV r, FV 0, .bool true, .tuple #[FV i, .int .i64 0], FV r, .tuple #[FV i, .int .i64 0], FV i, .int .i64 0, pt (L0.b 0) 6, FV x.c1, FV h, FV (x.c1 * h), FV i, FV y, FV r, FV y, PV ⟨r, y⟩, .bool true, .bool true, PV ⟨r, y⟩, PV ⟨r, y⟩, PV x, PV x, .bool true, .bool true, PV ⟨r, y⟩, .bool gr] ++ U 4) (fun L => [((L0.b 0), PC x), ((L0.b 1), PC 0), ((L1.b 5), FC h), ((L2.b 15), FC (-(-n))), ((L6.b 10), FC r0), ((L9.b 7), FC m), ((L11.b 3), PC ⟨r0, m⟩), ((L15.b 10), FC r), ((L18.b 7), FC y), ((L20.b 5), FC i), ((L22.b 3), PC ⟨r, y⟩)]) hp24 ⟨
    oL 10 0 rP, oH (v := .bool gr) (vs := #[PV ⟨r, y⟩]) (fun w _ _ => by have e := ref5Great2 R ⟨r, y⟩ w; rw [hG] at e; exact e),
    trivial⟩ (fun L24 w25 hp25 => ?_)
  refine k39 _ _ ?_
  cases gr
  · skip
    refine wp_cond_false (by kernel_rfl) ?_
    refine skips ?_
    refine k38 _ _ ?_
    refine wp_seq_k (fun K40 k40 => ?_)
    refine gs [.det (PV ⟨r, y⟩), .store (.base 1) 0 (PC ⟨r, y⟩) (PC ⟨r, y⟩), .det (.bool true)] [0, 1, 2] [0, 1, 3] (fun L => [PV x, pt (L0.b 0) 0, pt (L0.b 1) 0, .bool true, pt (L1.b 5) 0, .int .i64 0, pt (L2.b 15) 0, .bool true, .int .i64 1, pt (L15.b 10) 0, .bool true, pt (L18.b 7) 0, .bool true, pt (L20.b 5) 0, .int .i64 0, pt (L22.b 3) 0, .tuple #[FV h, .int .i64 0], FV 2, .tuple #[FV h, .int .i64 0], FV h, .int .i64 0, .tuple #[FV n, .bool true], pt (L0.b 0) 0, FV x.c0, pt (L0.b 0) 0, FV x.c0, FV (x.c0 * x.c0), pt (L0.b 0) 6, FV x.c1, pt (L0.b 0) 6, FV x.c1, FV (x.c1 * x.c1), FV x.norm, .tuple #[FV n, .bool true], FV n, .bool true, .bool true, .bool false, undef, .int .i64 1, .bool true, .int .i64 0, .int .i64 1, .tuple #[FV r, .bool true], pt (L0.b 0) 0, FV x.c0, FV (-n), FV (x.c0 + (-n)), FV h, FV ((x.c0 + (-n)) * h), .tuple #[FV r, .bool true], FV r, .bool true, FV (-n), FV (-(-n)), .bool true, .bool false, .tuple #[FV m, .bool false], pt (L0.b 0) 0, FV x.c0, FV (-x.c0), .tuple #[FV m, .bool false], FV m, .bool false, FV r, FV 0, .bool true, .tuple #[FV i, .int .i64 0], FV r, .tuple #[FV i, .int .i64 0], FV i, .int .i64 0, pt (L0.b 0) 6, FV x.c1, FV h, FV (x.c1 * h), FV i, FV y, FV r, FV y, PV ⟨r, y⟩, .bool true, .bool true, PV ⟨r, y⟩, PV ⟨r, y⟩, PV x, PV x, .bool true, .bool true, PV ⟨r, y⟩, .bool false, undef, undef, PV ⟨r, y⟩, undef]) (fun L => [((L0.b 0), PC x), ((L0.b 1), PC ⟨r, y⟩), ((L1.b 5), FC h), ((L2.b 15), FC (-(-n))), ((L6.b 10), FC r0), ((L9.b 7), FC m), ((L11.b 3), PC ⟨r0, m⟩), ((L15.b 10), FC r), ((L18.b 7), FC y), ((L20.b 5), FC i), ((L22.b 3), PC ⟨r, y⟩)]) hp25 ⟨
      oL 10 0 rP, oT rP, oA,
      trivial⟩ (fun L25 w26 hp26 => ?_)
    refine k40 _ _ ?_
    refine wp_ret ?_
    refine k27 _ _ _ ?_
    refine k23 _ _ _ ?_
    refine k8 _ _ _ ?_
    refine bodyPost_ret (v := .tuple #[PV ⟨r, y⟩, .bool true]) ?_ rfl ?_
    · exact rct rP rfl (by kernel_rfl) (by kernel_rfl) (hp26.bound 1 rfl).2
    · exact ⟨rfl, hp26.bel⟩
  · skip
    refine wp_cond_true (by kernel_rfl) ?_
    refine gs [.det (PV ⟨r, y⟩), .det (PV (-⟨r, y⟩)), .store (.base 10) 0 (PC (-⟨r, y⟩)) (PC (-⟨r, y⟩))] [0, 1, 2] [0, 1, 3] (fun L => [PV x, pt (L0.b 0) 0, pt (L0.b 1) 0, .bool false, pt (L1.b 5) 0, .int .i64 0, pt (L2.b 15) 0, .bool true, .int .i64 1, pt (L15.b 10) 0, .bool true, pt (L18.b 7) 0, .bool true, pt (L20.b 5) 0, .int .i64 0, pt (L22.b 3) 0, .tuple #[FV h, .int .i64 0], FV 2, .tuple #[FV h, .int .i64 0], FV h, .int .i64 0, .tuple #[FV n, .bool true], pt (L0.b 0) 0, FV x.c0, pt (L0.b 0) 0, FV x.c0, FV (x.c0 * x.c0), pt (L0.b 0) 6, FV x.c1, pt (L0.b 0) 6, FV x.c1, FV (x.c1 * x.c1), FV x.norm, .tuple #[FV n, .bool true], FV n, .bool true, .bool true, .bool false, undef, .int .i64 1, .bool true, .int .i64 0, .int .i64 1, .tuple #[FV r, .bool true], pt (L0.b 0) 0, FV x.c0, FV (-n), FV (x.c0 + (-n)), FV h, FV ((x.c0 + (-n)) * h), .tuple #[FV r, .bool true], FV r, .bool true, FV (-n), FV (-(-n)), .bool true, .bool false, .tuple #[FV m, .bool false], pt (L0.b 0) 0, FV x.c0, FV (-x.c0), .tuple #[FV m, .bool false], FV m, .bool false, FV r, FV 0, .bool true, .tuple #[FV i, .int .i64 0], FV r, .tuple #[FV i, .int .i64 0], FV i, .int .i64 0, pt (L0.b 0) 6, FV x.c1, FV h, FV (x.c1 * h), FV i, FV y, FV r, FV y, PV ⟨r, y⟩, .bool true, .bool true, PV ⟨r, y⟩, PV ⟨r, y⟩, PV x, PV x, .bool true, .bool true, PV ⟨r, y⟩, .bool true, PV ⟨r, y⟩, PV (-⟨r, y⟩), undef, undef]) (fun L => [((L0.b 0), PC x), ((L0.b 1), PC 0), ((L1.b 5), FC h), ((L2.b 15), FC (-(-n))), ((L6.b 10), FC r0), ((L9.b 7), FC m), ((L11.b 3), PC ⟨r0, m⟩), ((L15.b 10), FC r), ((L18.b 7), FC y), ((L20.b 5), FC i), ((L22.b 3), PC (-⟨r, y⟩))]) hp25 ⟨
      oL 10 0 rP, oR (ref5Neg2 R ⟨r, y⟩), oT rP,
      trivial⟩ (fun L25 w26 hp26 => ?_)
    refine k38 _ _ ?_
    refine wp_seq_k (fun K40 k40 => ?_)
    refine gs [.det (PV (-⟨r, y⟩)), .store (.base 1) 0 (PC (-⟨r, y⟩)) (PC (-⟨r, y⟩)), .det (.bool true)] [0, 1, 2] [0, 1, 3] (fun L => [PV x, pt (L0.b 0) 0, pt (L0.b 1) 0, .bool true, pt (L1.b 5) 0, .int .i64 0, pt (L2.b 15) 0, .bool true, .int .i64 1, pt (L15.b 10) 0, .bool true, pt (L18.b 7) 0, .bool true, pt (L20.b 5) 0, .int .i64 0, pt (L22.b 3) 0, .tuple #[FV h, .int .i64 0], FV 2, .tuple #[FV h, .int .i64 0], FV h, .int .i64 0, .tuple #[FV n, .bool true], pt (L0.b 0) 0, FV x.c0, pt (L0.b 0) 0, FV x.c0, FV (x.c0 * x.c0), pt (L0.b 0) 6, FV x.c1, pt (L0.b 0) 6, FV x.c1, FV (x.c1 * x.c1), FV x.norm, .tuple #[FV n, .bool true], FV n, .bool true, .bool true, .bool false, undef, .int .i64 1, .bool true, .int .i64 0, .int .i64 1, .tuple #[FV r, .bool true], pt (L0.b 0) 0, FV x.c0, FV (-n), FV (x.c0 + (-n)), FV h, FV ((x.c0 + (-n)) * h), .tuple #[FV r, .bool true], FV r, .bool true, FV (-n), FV (-(-n)), .bool true, .bool false, .tuple #[FV m, .bool false], pt (L0.b 0) 0, FV x.c0, FV (-x.c0), .tuple #[FV m, .bool false], FV m, .bool false, FV r, FV 0, .bool true, .tuple #[FV i, .int .i64 0], FV r, .tuple #[FV i, .int .i64 0], FV i, .int .i64 0, pt (L0.b 0) 6, FV x.c1, FV h, FV (x.c1 * h), FV i, FV y, FV r, FV y, PV ⟨r, y⟩, .bool true, .bool true, PV ⟨r, y⟩, PV ⟨r, y⟩, PV x, PV x, .bool true, .bool true, PV ⟨r, y⟩, .bool true, PV ⟨r, y⟩, PV (-⟨r, y⟩), PV (-⟨r, y⟩), undef]) (fun L => [((L0.b 0), PC x), ((L0.b 1), PC (-⟨r, y⟩)), ((L1.b 5), FC h), ((L2.b 15), FC (-(-n))), ((L6.b 10), FC r0), ((L9.b 7), FC m), ((L11.b 3), PC ⟨r0, m⟩), ((L15.b 10), FC r), ((L18.b 7), FC y), ((L20.b 5), FC i), ((L22.b 3), PC (-⟨r, y⟩))]) hp26 ⟨
      oL 10 0 rP, oT rP, oA,
      trivial⟩ (fun L26 w27 hp27 => ?_)
    refine k40 _ _ ?_
    refine wp_ret ?_
    refine k27 _ _ _ ?_
    refine k23 _ _ _ ?_
    refine k8 _ _ _ ?_
    refine bodyPost_ret (v := .tuple #[PV (-⟨r, y⟩), .bool true]) ?_ rfl ?_
    · exact rct rP rfl (by kernel_rfl) (by kernel_rfl) (hp27.bound 1 rfl).2
    · exact ⟨rfl, hp27.bel⟩
end Go.Proofs.YthehnlpgmkjefaaDoor.fpn

/- The reference's roots of pairs: more of its paths. -/
namespace Go.Proofs.YthehnlpgmkjefaaDoor.fpn
open Go.RowKit Pl
set_option linter.unusedVariables false
set_option linter.unusedSimpArgs false
set_option maxRecDepth 4000

set_option maxHeartbeats 4000000 in
theorem sqD (R : RefK) (x : F2) {n h m : F} {b : Bool} {r0 r i y : F} {gr : Bool} (w : World) (hq : isq x.norm = true) (hh : finv 2 = h) (hn : root x.norm = n) (hm : root (-x.c0) = m) (hb : isq (-x.c0) = b) (h0 : isq ((x.c0 + n) * h) = false) (hr0 : root ((x.c0 + n) * h) = r0) (h1 : isq ((x.c0 + (-n)) * h) = true) (hr : root ((x.c0 + (-n)) * h) = r) (hi : r ≠ 0) (hj : finv r = i) (hy : x.c1 * h * i = y) (hz : (⟨r, y⟩ : F2) * ⟨r, y⟩ = x) (hG : (⟨r, y⟩ : F2).great = gr) : Calls Tryd.prog 55 #[PV x] w (Ret (.tuple #[PV (bif gr then (-⟨r, y⟩) else ⟨r, y⟩), .bool true]) w) := by
  have hp0 := Heap.start w
  go_enter Tryd.func55, Tryd.ntmps55
  refine wp_seq_k (fun K1 k1 => ?_)
  refine gs [.alloc (PC x), .alloc (PC 0), .det (.bool false)] [0, 1, 2] [0, 0, 0] (fun L => [PV x, pt (L.b 0) 0, pt (L.b 1) 0, .bool false] ++ U 91) (fun L => [(L.b 0, PC x), (L.b 1, PC 0)]) hp0 ⟨
    oB, oZ rP, oA,
    trivial⟩ (fun L0 w1 hp1 => ?_)
  refine k1 _ _ ?_
  refine wp_seq_k (fun K2 k2 => ?_)
  refine gs [.det (FV 2), .det (.tuple #[FV h, .int .i64 0]), .det (.tuple #[FV h, .int .i64 0]), .det (FV h), .det (.int .i64 0), .alloc (FC 0), .store (.new 5) 0 (FC h) (FC h), .det (.int .i64 0)] [0, 1, 2, 3, 4, 5, 6, 7] [0, 1, 3, 7, 7, 0, 47, 127] (fun L => [PV x, pt (L0.b 0) 0, pt (L0.b 1) 0, .bool false, pt (L.b 5) 0, .int .i64 0, undef, undef, undef, undef, undef, undef, undef, undef, undef, undef, .tuple #[FV h, .int .i64 0], FV 2, .tuple #[FV h, .int .i64 0], FV h, .int .i64 0] ++ U 74) (fun L => [((L0.b 0), PC x), ((L0.b 1), PC 0), (L.b 5, FC h)]) hp1 ⟨
    oR R.of2, oH (v := .tuple #[FV h, .int .i64 0]) (vs := #[FV 2]) (fun w _ _ => by have e := R.inv 2 w trivial two_ne; rw [hh] at e; exact e), oM, oX, oX, oZ rF,
    oT rF, oA,
    trivial⟩ (fun L1 w2 hp2 => ?_)
  refine k2 _ _ ?_
  refine wp_seq_k (fun K3 k3 => ?_)
  refine dr [.det (pt (L0.b 0) 0), .det (FV x.c0), .det (pt (L0.b 0) 0), .det (FV x.c0), .det (FV (x.c0 * x.c0)), .det (pt (L0.b 0) 6), .det (FV x.c1), .det (pt (L0.b 0) 6), .det (FV x.c1), .det (FV (x.c1 * x.c1)), .det (FV x.norm), .det (.tuple #[FV n, .bool true]), .det (.tuple #[FV n, .bool true]), .det (FV n), .det (.bool true), .alloc (FC 0), .store (.new 15) 0 (FC n) (FC n), .det (.bool true)] [0, 1, 2, 3, 4, 5, 6, 7, 8, 9, 10, 11, 12, 13, 14, 15, 16, 17] [0, 1, 0, 4, 15, 0, 32, 0, 128, 511, 1023, 2047, 4095, 8191, 8191, 0, 49151, 131071] (fun L => [PV x, pt (L0.b 0) 0, pt (L0.b 1) 0, .bool false, pt (L1.b 5) 0, .int .i64 0, pt (L.b 15) 0, .bool true, undef, undef, undef, undef, undef, undef, undef, undef, .tuple #[FV h, .int .i64 0], FV 2, .tuple #[FV h, .int .i64 0], FV h, .int .i64 0, .tuple #[FV n, .bool true], pt (L0.b 0) 0, FV x.c0, pt (L0.b 0) 0, FV x.c0, FV (x.c0 * x.c0), pt (L0.b 0) 6, FV x.c1, pt (L0.b 0) 6, FV x.c1, FV (x.c1 * x.c1), FV x.norm, .tuple #[FV n, .bool true], FV n, .bool true] ++ U 59) (fun L => [((L0.b 0), PC x), ((L0.b 1), PC 0), ((L1.b 5), FC h), (L.b 15, FC n)]) hp2 ⟨
    oI aP, oL 0 0 rF, oI aP, oL 0 0 rF, oR (fun w => R.mul x.c0 x.c0 w trivial), oI aP, oL 0 6 rF, oI aP, oL 0 6 rF, oR (fun w => R.mul x.c1 x.c1 w trivial), oR (fun w => R.add (x.c0 * x.c0) (x.c1 * x.c1) w trivial),
    oH (v := .tuple #[FV n, .bool true]) (vs := #[FV x.norm]) (fun w _ _ => by have e := R.sqrt x.norm w trivial; rw [hq, hn] at e; exact e), oM, oX, oX, oZ rF,
    oT rF, oA,
    trivial⟩ (fun L2 w3 hp3 => ?_)
  refine k3 _ _ ?_
  refine wp_seq_k (fun K4 k4 => ?_)
  refine wp_seq_k (fun K5 k5 => ?_)
  refine gs [.det (.bool true), .det (.bool false)] [0, 1] [0, 1] (fun L => [PV x, pt (L0.b 0) 0, pt (L0.b 1) 0, .bool false, pt (L1.b 5) 0, .int .i64 0, pt (L2.b 15) 0, .bool true, undef, undef, undef, undef, undef, undef, undef, undef, .tuple #[FV h, .int .i64 0], FV 2, .tuple #[FV h, .int .i64 0], FV h, .int .i64 0, .tuple #[FV n, .bool true], pt (L0.b 0) 0, FV x.c0, pt (L0.b 0) 0, FV x.c0, FV (x.c0 * x.c0), pt (L0.b 0) 6, FV x.c1, pt (L0.b 0) 6, FV x.c1, FV (x.c1 * x.c1), FV x.norm, .tuple #[FV n, .bool true], FV n, .bool true, .bool true, .bool false] ++ U 57) (fun L => [((L0.b 0), PC x), ((L0.b 1), PC 0), ((L1.b 5), FC h), ((L2.b 15), FC n)]) hp3 ⟨
    oM, oN,
    trivial⟩ (fun L3 w4 hp4 => ?_)
  refine k5 _ _ ?_
  refine wp_cond_false (by kernel_rfl) ?_
  refine skips ?_
  refine k4 _ _ ?_
  refine wp_seq_k (fun K6 k6 => ?_)
  refine wp_seq_k (fun K7 k7 => ?_)
  refine gs [.det (.int .i64 0)] [0] [0] (fun L => [PV x, pt (L0.b 0) 0, pt (L0.b 1) 0, .bool false, pt (L1.b 5) 0, .int .i64 0, pt (L2.b 15) 0, .bool true, .int .i64 0, undef, undef, undef, undef, undef, undef, undef, .tuple #[FV h, .int .i64 0], FV 2, .tuple #[FV h, .int .i64 0], FV h, .int .i64 0, .tuple #[FV n, .bool true], pt (L0.b 0) 0, FV x.c0, pt (L0.b 0) 0, FV x.c0, FV (x.c0 * x.c0), pt (L0.b 0) 6, FV x.c1, pt (L0.b 0) 6, FV x.c1, FV (x.c1 * x.c1), FV x.norm, .tuple #[FV n, .bool true], FV n, .bool true, .bool true, .bool false] ++ U 57) (fun L => [((L0.b 0), PC x), ((L0.b 1), PC 0), ((L1.b 5), FC h), ((L2.b 15), FC n)]) hp4 ⟨
    oA,
    trivial⟩ (fun L4 w5 hp5 => ?_)
  refine k7 _ _ ?_
  refine wp_block_k (fun K8 k8 => ?_)
  refine wp_loop_rounds 9 ?_
  refine rounds_k (fun K9 k9 => ?_)
  refine wp_seq_k (fun K10 k10 => ?_)
  refine wp_seq_k (fun K11 k11 => ?_)
  refine gs [.det (.int .i64 0), .det (.bool true)] [0, 1] [0, 1] (fun L => [PV x, pt (L0.b 0) 0, pt (L0.b 1) 0, .bool false, pt (L1.b 5) 0, .int .i64 0, pt (L2.b 15) 0, .bool true, .int .i64 0, undef, undef, undef, undef, undef, undef, undef, .tuple #[FV h, .int .i64 0], FV 2, .tuple #[FV h, .int .i64 0], FV h, .int .i64 0, .tuple #[FV n, .bool true], pt (L0.b 0) 0, FV x.c0, pt (L0.b 0) 0, FV x.c0, FV (x.c0 * x.c0), pt (L0.b 0) 6, FV x.c1, pt (L0.b 0) 6, FV x.c1, FV (x.c1 * x.c1), FV x.norm, .tuple #[FV n, .bool true], FV n, .bool true, .bool true, .bool false, undef, .int .i64 0, .bool true] ++ U 54) (fun L => [((L0.b 0), PC x), ((L0.b 1), PC 0), ((L1.b 5), FC h), ((L2.b 15), FC n)]) hp5 ⟨
    oM, oJ .i64 .i64 0 2,
    trivial⟩ (fun L5 w6 hp6 => ?_)
  refine k11 _ _ ?_
  refine wp_cond_true (by kernel_rfl) ?_
  refine skips ?_
  refine k10 _ _ ?_
  refine wp_seq_k (fun K12 k12 => ?_)
  refine wp_block_k (fun K13 k13 => ?_)
  refine wp_seq_k (fun K14 k14 => ?_)
  refine dr [.det (pt (L0.b 0) 0), .det (FV x.c0), .det (FV n), .det (FV (x.c0 + n)), .det (FV h), .det (FV ((x.c0 + n) * h)), .det (.tuple #[FV r0, .bool false]), .det (.tuple #[FV r0, .bool false]), .det (FV r0), .det (.bool false), .alloc (FC 0), .store (.new 10) 0 (FC r0) (FC r0), .det (.bool false)] [0, 1, 2, 3, 4, 5, 6, 7, 8, 9, 10, 11, 12] [0, 1, 0, 7, 0, 31, 63, 127, 255, 255, 0, 1535, 4095] (fun L => [PV x, pt (L0.b 0) 0, pt (L0.b 1) 0, .bool false, pt (L1.b 5) 0, .int .i64 0, pt (L2.b 15) 0, .bool true, .int .i64 0, pt (L.b 10) 0, .bool false, undef, undef, undef, undef, undef, .tuple #[FV h, .int .i64 0], FV 2, .tuple #[FV h, .int .i64 0], FV h, .int .i64 0, .tuple #[FV n, .bool true], pt (L0.b 0) 0, FV x.c0, pt (L0.b 0) 0, FV x.c0, FV (x.c0 * x.c0), pt (L0.b 0) 6, FV x.c1, pt (L0.b 0) 6, FV x.c1, FV (x.c1 * x.c1), FV x.norm, .tuple #[FV n, .bool true], FV n, .bool true, .bool true, .bool false, undef, .int .i64 0, .bool true, undef, undef, .tuple #[FV r0, .bool false], pt (L0.b 0) 0, FV x.c0, FV n, FV (x.c0 + n), FV h, FV ((x.c0 + n) * h), .tuple #[FV r0, .bool false], FV r0, .bool false] ++ U 42) (fun L => [((L0.b 0), PC x), ((L0.b 1), PC 0), ((L1.b 5), FC h), ((L2.b 15), FC n), (L.b 10, FC r0)]) hp6 ⟨
    oI aP, oL 0 0 rF, oL 3 0 rF, oR (fun w => R.add x.c0 n w trivial), oL 2 0 rF, oR (fun w => R.mul (x.c0 + n) h w trivial), oH (v := .tuple #[FV r0, .bool false]) (vs := #[FV ((x.c0 + n) * h)]) (fun w _ _ => by have e := R.sqrt ((x.c0 + n) * h) w trivial; rw [h0, hr0] at e; exact e),
    oM, oX, oX, oZ rF, oT rF, oA,
    trivial⟩ (fun L6 w7 hp7 => ?_)
  refine k14 _ _ ?_
  refine wp_seq_k (fun K15 k15 => ?_)
  refine gs [.det (FV n), .det (FV (-n)), .store (.base 3) 0 (FC (-n)) (FC (-n))] [0, 1, 2] [0, 1, 3] (fun L => [PV x, pt (L0.b 0) 0, pt (L0.b 1) 0, .bool false, pt (L1.b 5) 0, .int .i64 0, pt (L2.b 15) 0, .bool true, .int .i64 0, pt (L6.b 10) 0, .bool false, undef, undef, undef, undef, undef, .tuple #[FV h, .int .i64 0], FV 2, .tuple #[FV h, .int .i64 0], FV h, .int .i64 0, .tuple #[FV n, .bool true], pt (L0.b 0) 0, FV x.c0, pt (L0.b 0) 0, FV x.c0, FV (x.c0 * x.c0), pt (L0.b 0) 6, FV x.c1, pt (L0.b 0) 6, FV x.c1, FV (x.c1 * x.c1), FV x.norm, .tuple #[FV n, .bool true], FV n, .bool true, .bool true, .bool false, undef, .int .i64 0, .bool true, undef, undef, .tuple #[FV r0, .bool false], pt (L0.b 0) 0, FV x.c0, FV n, FV (x.c0 + n), FV h, FV ((x.c0 + n) * h), .tuple #[FV r0, .bool false], FV r0, .bool false, FV n, FV (-n)] ++ U 40) (fun L => [((L0.b 0), PC x), ((L0.b 1), PC 0), ((L1.b 5), FC h), ((L2.b 15), FC (-n)), ((L6.b 10), FC r0)]) hp7 ⟨
    oL 3 0 rF, oR (fun w => R.neg n w trivial), oT rF,
    trivial⟩ (fun L7 w8 hp8 => ?_)
  refine k15 _ _ ?_
  refine wp_seq_k (fun K16 k16 => ?_)
  refine wp_seq_k (fun K17 k17 => ?_)
  refine gs [.det (.bool false), .det (.bool true)] [0, 1] [0, 1] (fun L => [PV x, pt (L0.b 0) 0, pt (L0.b 1) 0, .bool false, pt (L1.b 5) 0, .int .i64 0, pt (L2.b 15) 0, .bool true, .int .i64 0, pt (L6.b 10) 0, .bool false, undef, undef, undef, undef, undef, .tuple #[FV h, .int .i64 0], FV 2, .tuple #[FV h, .int .i64 0], FV h, .int .i64 0, .tuple #[FV n, .bool true], pt (L0.b 0) 0, FV x.c0, pt (L0.b 0) 0, FV x.c0, FV (x.c0 * x.c0), pt (L0.b 0) 6, FV x.c1, pt (L0.b 0) 6, FV x.c1, FV (x.c1 * x.c1), FV x.norm, .tuple #[FV n, .bool true], FV n, .bool true, .bool true, .bool false, undef, .int .i64 0, .bool true, undef, undef, .tuple #[FV r0, .bool false], pt (L0.b 0) 0, FV x.c0, FV n, FV (x.c0 + n), FV h, FV ((x.c0 + n) * h), .tuple #[FV r0, .bool false], FV r0, .bool false, FV n, FV (-n), .bool false, .bool true] ++ U 38) (fun L => [((L0.b 0), PC x), ((L0.b 1), PC 0), ((L1.b 5), FC h), ((L2.b 15), FC (-n)), ((L6.b 10), FC r0)]) hp8 ⟨
    oM, oN,
    trivial⟩ (fun L8 w9 hp9 => ?_)
  refine k17 _ _ ?_
  refine wp_cond_true (by kernel_rfl) ?_
  refine wp_exit ?_
  refine then_exit ?_
  refine k13 _ _ _ ?_
  refine exit_in ?_
  refine k12 _ _ ?_
  refine gs [.det (.int .i64 0), .det (.int .i64 1), .det (.int .i64 1)] [0, 1, 2] [0, 1, 3] (fun L => [PV x, pt (L0.b 0) 0, pt (L0.b 1) 0, .bool false, pt (L1.b 5) 0, .int .i64 0, pt (L2.b 15) 0, .bool true, .int .i64 1, pt (L6.b 10) 0, .bool false, undef, undef, undef, undef, undef, .tuple #[FV h, .int .i64 0], FV 2, .tuple #[FV h, .int .i64 0], FV h, .int .i64 0, .tuple #[FV n, .bool true], pt (L0.b 0) 0, FV x.c0, pt (L0.b 0) 0, FV x.c0, FV (x.c0 * x.c0), pt (L0.b 0) 6, FV x.c1, pt (L0.b 0) 6, FV x.c1, FV (x.c1 * x.c1), FV x.norm, .tuple #[FV n, .bool true], FV n, .bool true, .bool true, .bool false, undef, .int .i64 0, .bool true, .int .i64 0, .int .i64 1, .tuple #[FV r0, .bool false], pt (L0.b 0) 0, FV x.c0, FV n, FV (x.c0 + n), FV h, FV ((x.c0 + n) * h), .tuple #[FV r0, .bool false], FV r0, .bool false, FV n, FV (-n), .bool false, .bool true] ++ U 38) (fun L => [((L0.b 0), PC x), ((L0.b 1), PC 0), ((L1.b 5), FC h), ((L2.b 15), FC (-n)), ((L6.b 10), FC r0)]) hp9 ⟨
    oM, oJ .i64 .i64 0 1, oA,
    trivial⟩ (fun L9 w10 hp10 => ?_)
  refine k9 _ _ _ ?_
  refine then_normal ?_
  refine rounds_k (fun K18 k18 => ?_)
  refine wp_seq_k (fun K19 k19 => ?_)
  refine wp_seq_k (fun K20 k20 => ?_)
  refine gs [.det (.int .i64 1), .det (.bool true)] [0, 1] [0, 1] (fun L => [PV x, pt (L0.b 0) 0, pt (L0.b 1) 0, .bool false, pt (L1.b 5) 0, .int .i64 0, pt (L2.b 15) 0, .bool true, .int .i64 1, pt (L6.b 10) 0, .bool false, undef, undef, undef, undef, undef, .tuple #[FV h, .int .i64 0], FV 2, .tuple #[FV h, .int .i64 0], FV h, .int .i64 0, .tuple #[FV n, .bool true], pt (L0.b 0) 0, FV x.c0, pt (L0.b 0) 0, FV x.c0, FV (x.c0 * x.c0), pt (L0.b 0) 6, FV x.c1, pt (L0.b 0) 6, FV x.c1, FV (x.c1 * x.c1), FV x.norm, .tuple #[FV n, .bool true], FV n, .bool true, .bool true, .bool false, undef, .int .i64 1, .bool true, .int .i64 0, .int .i64 1, .tuple #[FV r0, .bool false], pt (L0.b 0) 0, FV x.c0, FV n, FV (x.c0 + n), FV h, FV ((x.c0 + n) * h), .tuple #[FV r0, .bool false], FV r0, .bool false, FV n, FV (-n), .bool false, .bool true] ++ U 38) (fun L => [((L0.b 0), PC x), ((L0.b 1), PC 0), ((L1.b 5), FC h), ((L2.b 15), FC (-n)), ((L6.b 10), FC r0)]) hp10 ⟨
    oM, oJ .i64 .i64 1 2,
    trivial⟩ (fun L10 w11 hp11 => ?_)
  refine k20 _ _ ?_
  refine wp_cond_true (by kernel_rfl) ?_
  refine skips ?_
  refine k19 _ _ ?_
  refine wp_seq_k (fun K21 k21 => ?_)
  refine wp_block_k (fun K22 k22 => ?_)
  refine wp_seq_k (fun K23 k23 => ?_)
  refine dr [.det (pt (L0.b 0) 0), .det (FV x.c0), .det (FV (-n)), .det (FV (x.c0 + (-n))), .det (FV h), .det (FV ((x.c0 + (-n)) * h)), .det (.tuple #[FV r, .bool true]), .det (.tuple #[FV r, .bool true]), .det (FV r), .det (.bool true), .alloc (FC 0), .store (.new 10) 0 (FC r) (FC r), .det (.bool true)] [0, 1, 2, 3, 4, 5, 6, 7, 8, 9, 10, 11, 12] [0, 1, 0, 7, 0, 31, 63, 127, 255, 255, 0, 1535, 4095] (fun L => [PV x, pt (L0.b 0) 0, pt (L0.b 1) 0, .bool false, pt (L1.b 5) 0, .int .i64 0, pt (L2.b 15) 0, .bool true, .int .i64 1, pt (L.b 10) 0, .bool true, undef, undef, undef, undef, undef, .tuple #[FV h, .int .i64 0], FV 2, .tuple #[FV h, .int .i64 0], FV h, .int .i64 0, .tuple #[FV n, .bool true], pt (L0.b 0) 0, FV x.c0, pt (L0.b 0) 0, FV x.c0, FV (x.c0 * x.c0), pt (L0.b 0) 6, FV x.c1, pt (L0.b 0) 6, FV x.c1, FV (x.c1 * x.c1), FV x.norm, .tuple #[FV n, .bool true], FV n, .bool true, .bool true, .bool false, undef, .int .i64 1, .bool true, .int .i64 0, .int .i64 1, .tuple #[FV r, .bool true], pt (L0.b 0) 0, FV x.c0, FV (-n), FV (x.c0 + (-n)), FV h, FV ((x.c0 + (-n)) * h), .tuple #[FV r, .bool true], FV r, .bool true, FV n, FV (-n), .bool false, .bool true] ++ U 38) (fun L => [((L0.b 0), PC x), ((L0.b 1), PC 0), ((L1.b 5), FC h), ((L2.b 15), FC (-n)), ((L6.b 10), FC r0), (L.b 10, FC r)]) hp11 ⟨
    oI aP, oL 0 0 rF, oL 3 0 rF, oR (fun w => R.add x.c0 (-n) w trivial), oL 2 0 rF, oR (fun w => R.mul (x.c0 + (-n)) h w trivial), oH (v := .tuple #[FV r, .bool true]) (vs := #[FV ((x.c0 + (-n)) * h)]) (fun w _ _ => by have e := R.sqrt ((x.c0 + (-n)) * h) w trivial; rw [h1, hr] at e; exact e),
    oM, oX, oX, oZ rF, oT rF, oA,
    trivial⟩ (fun L11 w12 hp12 => ?_)
  refine k23 _ _ ?_
  refine wp_seq_k (fun K24 k24 => ?_)
  refine gs [.det (FV (-n)), .det (FV (-(-n))), .store (.base 3) 0 (FC (-(-n))) (FC (-(-n)))] [0, 1, 2] [0, 1, 3] (fun L => [PV x, pt (L0.b 0) 0, pt (L0.b 1) 0, .bool false, pt (L1.b 5) 0, .int .i64 0, pt (L2.b 15) 0, .bool true, .int .i64 1, pt (L11.b 10) 0, .bool true, undef, undef, undef, undef, undef, .tuple #[FV h, .int .i64 0], FV 2, .tuple #[FV h, .int .i64 0], FV h, .int .i64 0, .tuple #[FV n, .bool true], pt (L0.b 0) 0, FV x.c0, pt (L0.b 0) 0, FV x.c0, FV (x.c0 * x.c0), pt (L0.b 0) 6, FV x.c1, pt (L0.b 0) 6, FV x.c1, FV (x.c1 * x.c1), FV x.norm, .tuple #[FV n, .bool true], FV n, .bool true, .bool true, .bool false, undef, .int .i64 1, .bool true, .int .i64 0, .int .i64 1, .tuple #[FV r, .bool true], pt (L0.b 0) 0, FV x.c0, FV (-n), FV (x.c0 + (-n)), FV h, FV ((x.c0 + (-n)) * h), .tuple #[FV r, .bool true], FV r, .bool true, FV (-n), FV (-(-n)), .bool false, .bool true] ++ U 38) (fun L => [((L0.b 0), PC x), ((L0.b 1), PC 0), ((L1.b 5), FC h), ((L2.b 15), FC (-(-n))), ((L6.b 10), FC r0), ((L11.b 10), FC r)]) hp12 ⟨
    oL 3 0 rF, oR (fun w => R.neg (-n) w trivial), oT rF,
    trivial⟩ (fun L12 w13 hp13 => ?_)
  refine k24 _ _ ?_
  refine wp_seq_k (fun K25 k25 => ?_)
  refine wp_seq_k (fun K26 k26 => ?_)
  refine gs [.det (.bool true), .det (.bool false)] [0, 1] [0, 1] (fun L => [PV x, pt (L0.b 0) 0, pt (L0.b 1) 0, .bool false, pt (L1.b 5) 0, .int .i64 0, pt (L2.b 15) 0, .bool true, .int .i64 1, pt (L11.b 10) 0, .bool true, undef, undef, undef, undef, undef, .tuple #[FV h, .int .i64 0], FV 2, .tuple #[FV h, .int .i64 0], FV h, .int .i64 0, .tuple #[FV n, .bool true], pt (L0.b 0) 0, FV x.c0, pt (L0.b 0) 0, FV x.c0, FV (x.c0 * x.c0), pt (L0.b 0) 6, FV x.c1, pt (L0.b 0) 6, FV x.c1, FV (x.c1 * x.c1), FV x.norm, .tuple #[FV n, .bool true], FV n, .bool true, .bool true, .bool false, undef, .int .i64 1, .bool true, .int .i64 0, .int .i64 1, .tuple #[FV r, .bool true], pt (L0.b 0) 0, FV x.c0, FV (-n), FV (x.c0 + (-n)), FV h, FV ((x.c0 + (-n)) * h), .tuple #[FV r, .bool true], FV r, .bool true, FV (-n), FV (-(-n)), .bool true, .bool false] ++ U 38) (fun L => [((L0.b 0), PC x), ((L0.b 1), PC 0), ((L1.b 5), FC h), ((L2.b 15), FC (-(-n))), ((L6.b 10), FC r0), ((L11.b 10), FC r)]) hp13 ⟨
    oM, oN,
    trivial⟩ (fun L13 w14 hp14 => ?_)
  refine k26 _ _ ?_
  refine wp_cond_false (by kernel_rfl) ?_
  refine skips ?_
  refine k25 _ _ ?_
  refine wp_seq_k (fun K27 k27 => ?_)
  refine gs [.det (pt (L0.b 0) 0), .det (FV x.c0), .det (FV (-x.c0)), .det (.tuple #[FV m, .bool b]), .det (.tuple #[FV m, .bool b]), .det (FV m), .det (.bool b), .alloc (FC 0), .store (.new 7) 0 (FC m) (FC m), .det (.bool b)] [0, 1, 2, 3, 4, 5, 6, 7, 8, 9] [0, 1, 3, 7, 15, 31, 31, 0, 191, 511] (fun L => [PV x, pt (L0.b 0) 0, pt (L0.b 1) 0, .bool false, pt (L1.b 5) 0, .int .i64 0, pt (L2.b 15) 0, .bool true, .int .i64 1, pt (L11.b 10) 0, .bool true, pt (L.b 7) 0, .bool b, undef, undef, undef, .tuple #[FV h, .int .i64 0], FV 2, .tuple #[FV h, .int .i64 0], FV h, .int .i64 0, .tuple #[FV n, .bool true], pt (L0.b 0) 0, FV x.c0, pt (L0.b 0) 0, FV x.c0, FV (x.c0 * x.c0), pt (L0.b 0) 6, FV x.c1, pt (L0.b 0) 6, FV x.c1, FV (x.c1 * x.c1), FV x.norm, .tuple #[FV n, .bool true], FV n, .bool true, .bool true, .bool false, undef, .int .i64 1, .bool true, .int .i64 0, .int .i64 1, .tuple #[FV r, .bool true], pt (L0.b 0) 0, FV x.c0, FV (-n), FV (x.c0 + (-n)), FV h, FV ((x.c0 + (-n)) * h), .tuple #[FV r, .bool true], FV r, .bool true, FV (-n), FV (-(-n)), .bool true, .bool false, .tuple #[FV m, .bool b], pt (L0.b 0) 0, FV x.c0, FV (-x.c0), .tuple #[FV m, .bool b], FV m, .bool b] ++ U 31) (fun L => [((L0.b 0), PC x), ((L0.b 1), PC 0), ((L1.b 5), FC h), ((L2.b 15), FC (-(-n))), ((L6.b 10), FC r0), ((L11.b 10), FC r), (L.b 7, FC m)]) hp14 ⟨
    oI aP, oL 0 0 rF, oR (fun w => R.neg x.c0 w trivial), oH (v := .tuple #[FV m, .bool b]) (vs := #[FV (-x.c0)]) (fun w _ _ => by have e := R.sqrt (-x.c0) w trivial; rw [hb, hm] at e; exact e),
    oM, oX, oX, oZ rF, oT rF, oA,
    trivial⟩ (fun L14 w15 hp15 => ?_)
  refine k27 _ _ ?_
  refine wp_seq_k (fun K28 k28 => ?_)
  refine wp_seq_k (fun K29 k29 => ?_)
  refine gs [.det (FV r), .det (FV 0), .det (.bool true)] [0, 1, 2] [0, 0, 3] (fun L => [PV x, pt (L0.b 0) 0, pt (L0.b 1) 0, .bool false, pt (L1.b 5) 0, .int .i64 0, pt (L2.b 15) 0, .bool true, .int .i64 1, pt (L11.b 10) 0, .bool true, pt (L14.b 7) 0, .bool b, undef, undef, undef, .tuple #[FV h, .int .i64 0], FV 2, .tuple #[FV h, .int .i64 0], FV h, .int .i64 0, .tuple #[FV n, .bool true], pt (L0.b 0) 0, FV x.c0, pt (L0.b 0) 0, FV x.c0, FV (x.c0 * x.c0), pt (L0.b 0) 6, FV x.c1, pt (L0.b 0) 6, FV x.c1, FV (x.c1 * x.c1), FV x.norm, .tuple #[FV n, .bool true], FV n, .bool true, .bool true, .bool false, undef, .int .i64 1, .bool true, .int .i64 0, .int .i64 1, .tuple #[FV r, .bool true], pt (L0.b 0) 0, FV x.c0, FV (-n), FV (x.c0 + (-n)), FV h, FV ((x.c0 + (-n)) * h), .tuple #[FV r, .bool true], FV r, .bool true, FV (-n), FV (-(-n)), .bool true, .bool false, .tuple #[FV m, .bool b], pt (L0.b 0) 0, FV x.c0, FV (-x.c0), .tuple #[FV m, .bool b], FV m, .bool b, FV r, FV 0, .bool true] ++ U 28) (fun L => [((L0.b 0), PC x), ((L0.b 1), PC 0), ((L1.b 5), FC h), ((L2.b 15), FC (-(-n))), ((L6.b 10), FC r0), ((L11.b 10), FC r), ((L14.b 7), FC m)]) hp15 ⟨
    oL 5 0 rF, oD buildF0, oU (a := r) (b := 0) qF (yes' hi),
    trivial⟩ (fun L15 w16 hp16 => ?_)
  refine k29 _ _ ?_
  refine wp_cond_true (by kernel_rfl) ?_
  refine wp_seq_k (fun K30 k30 => ?_)
  refine gs [.det (FV r), .det (.tuple #[FV i, .int .i64 0]), .det (.tuple #[FV i, .int .i64 0]), .det (FV i), .det (.int .i64 0), .alloc (FC 0), .store (.new 5) 0 (FC i) (FC i), .det (.int .i64 0)] [0, 1, 2, 3, 4, 5, 6, 7] [0, 1, 3, 7, 7, 0, 47, 127] (fun L => [PV x, pt (L0.b 0) 0, pt (L0.b 1) 0, .bool false, pt (L1.b 5) 0, .int .i64 0, pt (L2.b 15) 0, .bool true, .int .i64 1, pt (L11.b 10) 0, .bool true, pt (L14.b 7) 0, .bool b, pt (L.b 5) 0, .int .i64 0, undef, .tuple #[FV h, .int .i64 0], FV 2, .tuple #[FV h, .int .i64 0], FV h, .int .i64 0, .tuple #[FV n, .bool true], pt (L0.b 0) 0, FV x.c0, pt (L0.b 0) 0, FV x.c0, FV (x.c0 * x.c0), pt (L0.b 0) 6, FV x.c1, pt (L0.b 0) 6, FV x.c1, FV (x.c1 * x.c1), FV x.norm, .tuple #[FV n, .bool true], FV n, .bool true, .bool true, .bool false, undef, .int .i64 1, .bool true, .int .i64 0, .int .i64 1, .tuple #[FV r, .bool true], pt (L0.b 0) 0, FV x.c0, FV (-n), FV (x.c0 + (-n)), FV h, FV ((x.c0 + (-n)) * h), .tuple #[FV r, .bool true], FV r, .bool true, FV (-n), FV (-(-n)), .bool true, .bool false, .tuple #[FV m, .bool b], pt (L0.b 0) 0, FV x.c0, FV (-x.c0), .tuple #[FV m, .bool b], FV m, .bool b, FV r, FV 0, .bool true, .tuple #[FV i, .int .i64 0], FV r, .tuple #[FV i, .int .i64 0], FV i, .int .i64 0] ++ U 23) (fun L => [((L0.b 0), PC x), ((L0.b 1), PC 0), ((L1.b 5), FC h), ((L2.b 15), FC (-(-n))), ((L6.b 10), FC r0), ((L11.b 10), FC r), ((L14.b 7), FC m), (L.b 5, FC i)]) hp16 ⟨
    oL 5 0 rF, oH (v := .tuple #[FV i, .int .i64 0]) (vs := #[FV r]) (fun w _ _ => by have e := R.inv r w trivial hi; rw [hj] at e; exact e), oM, oX, oX, oZ rF,
    oT rF, oA,
    trivial⟩ (fun L16 w17 hp17 => ?_)
  refine k30 _ _ ?_
  refine dr [.det (pt (L0.b 0) 6), .det (FV x.c1), .det (FV h), .det (FV (x.c1 * h)), .det (FV i), .det (FV y), .store (.base 6) 0 (FC y) (FC y), .det (.bool true)] [0, 1, 2, 3, 4, 5, 6, 7] [0, 1, 0, 7, 0, 31, 63, 127] (fun L => [PV x, pt (L0.b 0) 0, pt (L0.b 1) 0, .bool false, pt (L1.b 5) 0, .int .i64 0, pt (L2.b 15) 0, .bool true, .int .i64 1, pt (L11.b 10) 0, .bool true, pt (L14.b 7) 0, .bool true, pt (L16.b 5) 0, .int .i64 0, undef, .tuple #[FV h, .int .i64 0], FV 2, .tuple #[FV h, .int .i64 0], FV h, .int .i64 0, .tuple #[FV n, .bool true], pt (L0.b 0) 0, FV x.c0, pt (L0.b 0) 0, FV x.c0, FV (x.c0 * x.c0), pt (L0.b 0) 6, FV x.c1, pt (L0.b 0) 6, FV x.c1, FV (x.c1 * x.c1), FV x.norm, .tuple #[FV n, .bool true], FV n, .bool true, .bool true, .bool false, undef, .int .i64 1, .bool true, .int .i64 0, .int .i64 1, .tuple #[FV r, .bool true], pt (L0.b 0) 0, FV x.c0, FV (-n), FV (x.c0 + (-n)), FV h, FV ((x.c0 + (-n)) * h), .tuple #[FV r, .bool true], FV r, .bool true, FV (-n), FV (-(-n)), .bool true, .bool false, .tuple #[FV m, .bool b], pt (L0.b 0) 0, FV x.c0, FV (-x.c0), .tuple #[FV m, .bool b], FV m, .bool b, FV r, FV 0, .bool true, .tuple #[FV i, .int .i64 0], FV r, .tuple #[FV i, .int .i64 0], FV i, .int .i64 0, pt (L0.b 0) 6, FV x.c1, FV h, FV (x.c1 * h), FV i, FV y] ++ U 17) (fun L => [((L0.b 0), PC x), ((L0.b 1), PC 0), ((L1.b 5), FC h), ((L2.b 15), FC (-(-n))), ((L6.b 10), FC r0), ((L11.b 10), FC r), ((L14.b 7), FC y), ((L16.b 5), FC i)]) hp17 ⟨
    oI aP, oL 0 6 rF, oL 2 0 rF, oR (fun w => R.mul x.c1 h w trivial), oL 7 0 rF, oH (v := FV y) (vs := #[FV (x.c1 * h), FV i]) (fun w _ _ => by have e := R.mul (x.c1 * h) i w trivial; rw [hy] at e; exact e),
    oT rF, oA,
    trivial⟩ (fun L17 w18 hp18 => ?_)
  refine k28 _ _ ?_
  refine wp_seq_k (fun K31 k31 => ?_)
  refine gs [.det (FV r), .det (FV y), .det (PV ⟨r, y⟩), .alloc (PC 0), .store (.new 3) 0 (PC ⟨r, y⟩) (PC ⟨r, y⟩)] [0, 1, 2, 3, 4] [0, 0, 3, 0, 15] (fun L => [PV x, pt (L0.b 0) 0, pt (L0.b 1) 0, .bool false, pt (L1.b 5) 0, .int .i64 0, pt (L2.b 15) 0, .bool true, .int .i64 1, pt (L11.b 10) 0, .bool true, pt (L14.b 7) 0, .bool true, pt (L16.b 5) 0, .int .i64 0, pt (L.b 3) 0, .tuple #[FV h, .int .i64 0], FV 2, .tuple #[FV h, .int .i64 0], FV h, .int .i64 0, .tuple #[FV n, .bool true], pt (L0.b 0) 0, FV x.c0, pt (L0.b 0) 0, FV x.c0, FV (x.c0 * x.c0), pt (L0.b 0) 6, FV x.c1, pt (L0.b 0) 6, FV x.c1, FV (x.c1 * x.c1), FV x.norm, .tuple #[FV n, .bool true], FV n, .bool true, .bool true, .bool false, undef, .int .i64 1, .bool true, .int .i64 0, .int .i64 1, .tuple #[FV r, .bool true], pt (L0.b 0) 0, FV x.c0, FV (-n), FV (x.c0 + (-n)), FV h, FV ((x.c0 + (-n)) * h), .tuple #[FV r, .bool true], FV r, .bool true, FV (-n), FV (-(-n)), .bool true, .bool false, .tuple #[FV m, .bool b], pt (L0.b 0) 0, FV x.c0, FV (-x.c0), .tuple #[FV m, .bool b], FV m, .bool b, FV r, FV 0, .bool true, .tuple #[FV i, .int .i64 0], FV r, .tuple #[FV i, .int .i64 0], FV i, .int .i64 0, pt (L0.b 0) 6, FV x.c1, FV h, FV (x.c1 * h), FV i, FV y, FV r, FV y, PV ⟨r, y⟩] ++ U 14) (fun L => [((L0.b 0), PC x), ((L0.b 1), PC 0), ((L1.b 5), FC h), ((L2.b 15), FC (-(-n))), ((L6.b 10), FC r0), ((L11.b 10), FC r), ((L14.b 7), FC y), ((L16.b 5), FC i), (L.b 3, PC ⟨r, y⟩)]) hp18 ⟨
    oL 5 0 rF, oL 6 0 rF, oD (buildP r y), oZ rP, oT rP,
    trivial⟩ (fun L18 w19 hp19 => ?_)
  refine k31 _ _ ?_
  refine wp_seq_k (fun K32 k32 => ?_)
  refine dr [.det (.bool true), .det (.bool true), .det (PV ⟨r, y⟩), .det (PV ⟨r, y⟩), .det (PV x), .det (PV x), .det (.bool true), .det (.bool true)] [0, 1, 2, 3, 4, 5, 6, 7] [0, 1, 3, 3, 15, 3, 63, 127] (fun L => [PV x, pt (L0.b 0) 0, pt (L0.b 1) 0, .bool false, pt (L1.b 5) 0, .int .i64 0, pt (L2.b 15) 0, .bool true, .int .i64 1, pt (L11.b 10) 0, .bool true, pt (L14.b 7) 0, .bool true, pt (L16.b 5) 0, .int .i64 0, pt (L18.b 3) 0, .tuple #[FV h, .int .i64 0], FV 2, .tuple #[FV h, .int .i64 0], FV h, .int .i64 0, .tuple #[FV n, .bool true], pt (L0.b 0) 0, FV x.c0, pt (L0.b 0) 0, FV x.c0, FV (x.c0 * x.c0), pt (L0.b 0) 6, FV x.c1, pt (L0.b 0) 6, FV x.c1, FV (x.c1 * x.c1), FV x.norm, .tuple #[FV n, .bool true], FV n, .bool true, .bool true, .bool false, undef, .int .i64 1, .bool true, .int .i64 0, .int .i64 1, .tuple #[FV r, .bool true], pt (L0.b 0) 0, FV x.c0, FV (-n), FV (x.c0 + (-n)), FV h, FV ((x.c0 + (-n)) * h), .tuple #[FV r, .bool true], FV r, .bool true, FV (-n), FV (-(-n)), .bool true, .bool false, .tuple #[FV m, .bool b], pt (L0.b 0) 0, FV x.c0, FV (-x.c0), .tuple #[FV m, .bool b], FV m, .bool b, FV r, FV 0, .bool true, .tuple #[FV i, .int .i64 0], FV r, .tuple #[FV i, .int .i64 0], FV i, .int .i64 0, pt (L0.b 0) 6, FV x.c1, FV h, FV (x.c1 * h), FV i, FV y, FV r, FV y, PV ⟨r, y⟩, .bool true, .bool true, PV ⟨r, y⟩, PV ⟨r, y⟩, PV x, PV x, .bool true, .bool true] ++ U 6) (fun L => [((L0.b 0), PC x), ((L0.b 1), PC 0), ((L1.b 5), FC h), ((L2.b 15), FC (-(-n))), ((L6.b 10), FC r0), ((L11.b 10), FC r), ((L14.b 7), FC y), ((L16.b 5), FC i), ((L18.b 3), PC ⟨r, y⟩)]) hp19 ⟨
    oM, oM, oL 8 0 rP, oL 8 0 rP, oH (v := PV x) (vs := #[PV ⟨r, y⟩, PV ⟨r, y⟩]) (fun w _ _ => by have e := ref5Mul2 R ⟨r, y⟩ ⟨r, y⟩ w; rw [hz] at e; exact e), oL 0 0 rP,
    oE (a := x) (b := x) qP (yes rfl), oP,
    trivial⟩ (fun L19 w20 hp20 => ?_)
  refine k32 _ _ ?_
  refine wp_cond_true (by kernel_rfl) ?_
  refine wp_seq_k (fun K33 k33 => ?_)
  refine wp_seq_k (fun K34 k34 => ?_)
  refine gs [.det (PV ⟨r, y⟩), .det (.bool gr)] [0, 1] [0, 1] (fun L => [PV x, pt (L0.b 0) 0, pt (L0.b 1) 0, .bool false, pt (L1.b 5) 0, .int .i64 0, pt (L2.b 15) 0, .bool true, .int .i64 1, pt (L11.b 10) 0, .bool true, pt (L14.b 7) 0, .bool true, pt (L16.b 5) 0, .int .i64 0, pt (L18.b 3) 0, .tuple #[FV h, .int .i64 0], FV 2, .tuple #[FV h, .int .i64 0], FV h, .int .i64 0, .tuple #[FV n, .bool true], pt (L0.b 0) 0, FV x.c0, pt (L0.b 0) 0, FV x.c0, FV (x.c0 * x.c0), pt (L0.b 0) 6, FV x.c1, pt (L0.b 0) 6, FV x.c1, FV (x.c1 * x.c1), FV x.norm, .tuple #[FV n, .bool true], FV n, .bool true, .bool true, .bool false, undef, .int .i64 1, .bool true, .int .i64 0, .int .i64 1, .tuple #[FV r, .bool true], pt (L0.b 0) 0, FV x.c0, FV (-n), FV (x.c0 + (-n)), FV h, FV ((x.c0 + (-n)) * h), .tuple #[FV r, .bool true], FV r, .bool true, FV (-n), FV (-(-n)), .bool true, .bool false, .tuple #[FV m, .bool b], pt (L0.b 0) 0, FV x.c0, FV (-x.c0), .tuple #[FV m, .bool b], FV m, .bool b, FV r, FV 0, .bool true, .tuple #[FV i, .int .i64 0], FV r, .tuple #[FV i, .int .i64 0], FV i, .int .i64 0, pt (L0.b 0) 6, FV x.c1, FV h, FV (x.c1 * h), FV i, FV y, FV r, FV y, PV ⟨r, y⟩, .bool true, .bool true, PV ⟨r, y⟩, PV ⟨r, y⟩, PV x, PV x, .bool true, .bool true, PV ⟨r, y⟩, .bool gr] ++ U 4) (fun L => [((L0.b 0), PC x), ((L0.b 1), PC 0), ((L1.b 5), FC h), ((L2.b 15), FC (-(-n))), ((L6.b 10), FC r0), ((L11.b 10), FC r), ((L14.b 7), FC y), ((L16.b 5), FC i), ((L18.b 3), PC ⟨r, y⟩)]) hp20 ⟨
    oL 8 0 rP, oH (v := .bool gr) (vs := #[PV ⟨r, y⟩]) (fun w _ _ => by have e := ref5Great2 R ⟨r, y⟩ w; rw [hG] at e; exact e),
    trivial⟩ (fun L20 w21 hp21 => ?_)
  refine k34 _ _ ?_
  cases gr
  · skip
    refine wp_cond_false (by kernel_rfl) ?_
    refine skips ?_
    refine k33 _ _ ?_
    refine wp_seq_k (fun K35 k35 => ?_)
    refine gs [.det (PV ⟨r, y⟩), .store (.base 1) 0 (PC ⟨r, y⟩) (PC ⟨r, y⟩), .det (.bool true)] [0, 1, 2] [0, 1, 3] (fun L => [PV x, pt (L0.b 0) 0, pt (L0.b 1) 0, .bool true, pt (L1.b 5) 0, .int .i64 0, pt (L2.b 15) 0, .bool true, .int .i64 1, pt (L11.b 10) 0, .bool true, pt (L14.b 7) 0, .bool true, pt (L16.b 5) 0, .int .i64 0, pt (L18.b 3) 0, .tuple #[FV h, .int .i64 0], FV 2, .tuple #[FV h, .int .i64 0], FV h, .int .i64 0, .tuple #[FV n, .bool true], pt (L0.b 0) 0, FV x.c0, pt (L0.b 0) 0, FV x.c0, FV (x.c0 * x.c0), pt (L0.b 0) 6, FV x.c1, pt (L0.b 0) 6, FV x.c1, FV (x.c1 * x.c1), FV x.norm, .tuple #[FV n, .bool true], FV n, .bool true, .bool true, .bool false, undef, .int .i64 1, .bool true, .int .i64 0, .int .i64 1, .tuple #[FV r, .bool true], pt (L0.b 0) 0, FV x.c0, FV (-n), FV (x.c0 + (-n)), FV h, FV ((x.c0 + (-n)) * h), .tuple #[FV r, .bool true], FV r, .bool true, FV (-n), FV (-(-n)), .bool true, .bool false, .tuple #[FV m, .bool b], pt (L0.b 0) 0, FV x.c0, FV (-x.c0), .tuple #[FV m, .bool b], FV m, .bool b, FV r, FV 0, .bool true, .tuple #[FV i, .int .i64 0], FV r, .tuple #[FV i, .int .i64 0], FV i, .int .i64 0, pt (L0.b 0) 6, FV x.c1, FV h, FV (x.c1 * h), FV i, FV y, FV r, FV y, PV ⟨r, y⟩, .bool true, .bool true, PV ⟨r, y⟩, PV ⟨r, y⟩, PV x, PV x, .bool true, .bool true, PV ⟨r, y⟩, .bool false, undef, undef, PV ⟨r, y⟩, undef]) (fun L => [((L0.b 0), PC x), ((L0.b 1), PC ⟨r, y⟩), ((L1.b 5), FC h), ((L2.b 15), FC (-(-n))), ((L6.b 10), FC r0), ((L11.b 10), FC r), ((L14.b 7), FC y), ((L16.b 5), FC i), ((L18.b 3), PC ⟨r, y⟩)]) hp21 ⟨
      oL 8 0 rP, oT rP, oA,
      trivial⟩ (fun L21 w22 hp22 => ?_)
    refine k35 _ _ ?_
    refine wp_ret ?_
    refine k22 _ _ _ ?_
    refine k18 _ _ _ ?_
    refine k8 _ _ _ ?_
    refine bodyPost_ret (v := .tuple #[PV ⟨r, y⟩, .bool true]) ?_ rfl ?_
    · exact rct rP rfl (by kernel_rfl) (by kernel_rfl) (hp22.bound 1 rfl).2
    · exact ⟨rfl, hp22.bel⟩
  · skip
    refine wp_cond_true (by kernel_rfl) ?_
    refine gs [.det (PV ⟨r, y⟩), .det (PV (-⟨r, y⟩)), .store (.base 8) 0 (PC (-⟨r, y⟩)) (PC (-⟨r, y⟩))] [0, 1, 2] [0, 1, 3] (fun L => [PV x, pt (L0.b 0) 0, pt (L0.b 1) 0, .bool false, pt (L1.b 5) 0, .int .i64 0, pt (L2.b 15) 0, .bool true, .int .i64 1, pt (L11.b 10) 0, .bool true, pt (L14.b 7) 0, .bool true, pt (L16.b 5) 0, .int .i64 0, pt (L18.b 3) 0, .tuple #[FV h, .int .i64 0], FV 2, .tuple #[FV h, .int .i64 0], FV h, .int .i64 0, .tuple #[FV n, .bool true], pt (L0.b 0) 0, FV x.c0, pt (L0.b 0) 0, FV x.c0, FV (x.c0 * x.c0), pt (L0.b 0) 6, FV x.c1, pt (L0.b 0) 6, FV x.c1, FV (x.c1 * x.c1), FV x.norm, .tuple #[FV n, .bool true], FV n, .bool true, .bool true, .bool false, undef, .int .i64 1, .bool true, .int .i64 0, .int .i64 1, .tuple #[FV r, .bool true], pt (L0.b 0) 0, FV x.c0, FV (-n), FV (x.c0 + (-n)), FV h, FV ((x.c0 + (-n)) * h), .tuple #[FV r, .bool true], FV r, .bool true, FV (-n), FV (-(-n)), .bool true, .bool false, .tuple #[FV m, .bool b], pt (L0.b 0) 0, FV x.c0, FV (-x.c0), .tuple #[FV m, .bool b], FV m, .bool b, FV r, FV 0, .bool true, .tuple #[FV i, .int .i64 0], FV r, .tuple #[FV i, .int .i64 0], FV i, .int .i64 0, pt (L0.b 0) 6, FV x.c1, FV h, FV (x.c1 * h), FV i, FV y, FV r, FV y, PV ⟨r, y⟩, .bool true, .bool true, PV ⟨r, y⟩, PV ⟨r, y⟩, PV x, PV x, .bool true, .bool true, PV ⟨r, y⟩, .bool true, PV ⟨r, y⟩, PV (-⟨r, y⟩), undef, undef]) (fun L => [((L0.b 0), PC x), ((L0.b 1), PC 0), ((L1.b 5), FC h), ((L2.b 15), FC (-(-n))), ((L6.b 10), FC r0), ((L11.b 10), FC r), ((L14.b 7), FC y), ((L16.b 5), FC i), ((L18.b 3), PC (-⟨r, y⟩))]) hp21 ⟨
      oL 8 0 rP, oR (ref5Neg2 R ⟨r, y⟩), oT rP,
      trivial⟩ (fun L21 w22 hp22 => ?_)
    refine k33 _ _ ?_
    refine wp_seq_k (fun K35 k35 => ?_)
    refine gs [.det (PV (-⟨r, y⟩)), .store (.base 1) 0 (PC (-⟨r, y⟩)) (PC (-⟨r, y⟩)), .det (.bool true)] [0, 1, 2] [0, 1, 3] (fun L => [PV x, pt (L0.b 0) 0, pt (L0.b 1) 0, .bool true, pt (L1.b 5) 0, .int .i64 0, pt (L2.b 15) 0, .bool true, .int .i64 1, pt (L11.b 10) 0, .bool true, pt (L14.b 7) 0, .bool true, pt (L16.b 5) 0, .int .i64 0, pt (L18.b 3) 0, .tuple #[FV h, .int .i64 0], FV 2, .tuple #[FV h, .int .i64 0], FV h, .int .i64 0, .tuple #[FV n, .bool true], pt (L0.b 0) 0, FV x.c0, pt (L0.b 0) 0, FV x.c0, FV (x.c0 * x.c0), pt (L0.b 0) 6, FV x.c1, pt (L0.b 0) 6, FV x.c1, FV (x.c1 * x.c1), FV x.norm, .tuple #[FV n, .bool true], FV n, .bool true, .bool true, .bool false, undef, .int .i64 1, .bool true, .int .i64 0, .int .i64 1, .tuple #[FV r, .bool true], pt (L0.b 0) 0, FV x.c0, FV (-n), FV (x.c0 + (-n)), FV h, FV ((x.c0 + (-n)) * h), .tuple #[FV r, .bool true], FV r, .bool true, FV (-n), FV (-(-n)), .bool true, .bool false, .tuple #[FV m, .bool b], pt (L0.b 0) 0, FV x.c0, FV (-x.c0), .tuple #[FV m, .bool b], FV m, .bool b, FV r, FV 0, .bool true, .tuple #[FV i, .int .i64 0], FV r, .tuple #[FV i, .int .i64 0], FV i, .int .i64 0, pt (L0.b 0) 6, FV x.c1, FV h, FV (x.c1 * h), FV i, FV y, FV r, FV y, PV ⟨r, y⟩, .bool true, .bool true, PV ⟨r, y⟩, PV ⟨r, y⟩, PV x, PV x, .bool true, .bool true, PV ⟨r, y⟩, .bool true, PV ⟨r, y⟩, PV (-⟨r, y⟩), PV (-⟨r, y⟩), undef]) (fun L => [((L0.b 0), PC x), ((L0.b 1), PC (-⟨r, y⟩)), ((L1.b 5), FC h), ((L2.b 15), FC (-(-n))), ((L6.b 10), FC r0), ((L11.b 10), FC r), ((L14.b 7), FC y), ((L16.b 5), FC i), ((L18.b 3), PC (-⟨r, y⟩))]) hp22 ⟨
      oL 8 0 rP, oT rP, oA,
      trivial⟩ (fun L22 w23 hp23 => ?_)
    refine k35 _ _ ?_
    refine wp_ret ?_
    refine k22 _ _ _ ?_
    refine k18 _ _ _ ?_
    refine k8 _ _ _ ?_
    refine bodyPost_ret (v := .tuple #[PV (-⟨r, y⟩), .bool true]) ?_ rfl ?_
    · exact rct rP rfl (by kernel_rfl) (by kernel_rfl) (hp23.bound 1 rfl).2
    · exact ⟨rfl, hp23.bel⟩
set_option maxHeartbeats 4000000 in
theorem sqE (R : RefK) (x : F2) {n h m : F} {r0 r : F} {gr : Bool} (w : World) (hq : isq x.norm = true) (hh : finv 2 = h) (hn : root x.norm = n) (hm : root (-x.c0) = m) (hb : isq (-x.c0) = true) (h0 : isq ((x.c0 + n) * h) = false) (hr0 : root ((x.c0 + n) * h) = r0) (h1 : isq ((x.c0 + (-n)) * h) = true) (hr : root ((x.c0 + (-n)) * h) = r) (h00 : r = 0) (hz : (⟨r, m⟩ : F2) * ⟨r, m⟩ = x) (hG : (⟨r, m⟩ : F2).great = gr) : Calls Tryd.prog 55 #[PV x] w (Ret (.tuple #[PV (bif gr then (-⟨r, m⟩) else ⟨r, m⟩), .bool true]) w) := by
  have hp0 := Heap.start w
  go_enter Tryd.func55, Tryd.ntmps55
  refine wp_seq_k (fun K1 k1 => ?_)
  refine gs [.alloc (PC x), .alloc (PC 0), .det (.bool false)] [0, 1, 2] [0, 0, 0] (fun L => [PV x, pt (L.b 0) 0, pt (L.b 1) 0, .bool false] ++ U 91) (fun L => [(L.b 0, PC x), (L.b 1, PC 0)]) hp0 ⟨
    oB, oZ rP, oA,
    trivial⟩ (fun L0 w1 hp1 => ?_)
  refine k1 _ _ ?_
  refine wp_seq_k (fun K2 k2 => ?_)
  refine gs [.det (FV 2), .det (.tuple #[FV h, .int .i64 0]), .det (.tuple #[FV h, .int .i64 0]), .det (FV h), .det (.int .i64 0), .alloc (FC 0), .store (.new 5) 0 (FC h) (FC h), .det (.int .i64 0)] [0, 1, 2, 3, 4, 5, 6, 7] [0, 1, 3, 7, 7, 0, 47, 127] (fun L => [PV x, pt (L0.b 0) 0, pt (L0.b 1) 0, .bool false, pt (L.b 5) 0, .int .i64 0, undef, undef, undef, undef, undef, undef, undef, undef, undef, undef, .tuple #[FV h, .int .i64 0], FV 2, .tuple #[FV h, .int .i64 0], FV h, .int .i64 0] ++ U 74) (fun L => [((L0.b 0), PC x), ((L0.b 1), PC 0), (L.b 5, FC h)]) hp1 ⟨
    oR R.of2, oH (v := .tuple #[FV h, .int .i64 0]) (vs := #[FV 2]) (fun w _ _ => by have e := R.inv 2 w trivial two_ne; rw [hh] at e; exact e), oM, oX, oX, oZ rF,
    oT rF, oA,
    trivial⟩ (fun L1 w2 hp2 => ?_)
  refine k2 _ _ ?_
  refine wp_seq_k (fun K3 k3 => ?_)
  refine dr [.det (pt (L0.b 0) 0), .det (FV x.c0), .det (pt (L0.b 0) 0), .det (FV x.c0), .det (FV (x.c0 * x.c0)), .det (pt (L0.b 0) 6), .det (FV x.c1), .det (pt (L0.b 0) 6), .det (FV x.c1), .det (FV (x.c1 * x.c1)), .det (FV x.norm), .det (.tuple #[FV n, .bool true]), .det (.tuple #[FV n, .bool true]), .det (FV n), .det (.bool true), .alloc (FC 0), .store (.new 15) 0 (FC n) (FC n), .det (.bool true)] [0, 1, 2, 3, 4, 5, 6, 7, 8, 9, 10, 11, 12, 13, 14, 15, 16, 17] [0, 1, 0, 4, 15, 0, 32, 0, 128, 511, 1023, 2047, 4095, 8191, 8191, 0, 49151, 131071] (fun L => [PV x, pt (L0.b 0) 0, pt (L0.b 1) 0, .bool false, pt (L1.b 5) 0, .int .i64 0, pt (L.b 15) 0, .bool true, undef, undef, undef, undef, undef, undef, undef, undef, .tuple #[FV h, .int .i64 0], FV 2, .tuple #[FV h, .int .i64 0], FV h, .int .i64 0, .tuple #[FV n, .bool true], pt (L0.b 0) 0, FV x.c0, pt (L0.b 0) 0, FV x.c0, FV (x.c0 * x.c0), pt (L0.b 0) 6, FV x.c1, pt (L0.b 0) 6, FV x.c1, FV (x.c1 * x.c1), FV x.norm, .tuple #[FV n, .bool true], FV n, .bool true] ++ U 59) (fun L => [((L0.b 0), PC x), ((L0.b 1), PC 0), ((L1.b 5), FC h), (L.b 15, FC n)]) hp2 ⟨
    oI aP, oL 0 0 rF, oI aP, oL 0 0 rF, oR (fun w => R.mul x.c0 x.c0 w trivial), oI aP, oL 0 6 rF, oI aP, oL 0 6 rF, oR (fun w => R.mul x.c1 x.c1 w trivial), oR (fun w => R.add (x.c0 * x.c0) (x.c1 * x.c1) w trivial),
    oH (v := .tuple #[FV n, .bool true]) (vs := #[FV x.norm]) (fun w _ _ => by have e := R.sqrt x.norm w trivial; rw [hq, hn] at e; exact e), oM, oX, oX, oZ rF,
    oT rF, oA,
    trivial⟩ (fun L2 w3 hp3 => ?_)
  refine k3 _ _ ?_
  refine wp_seq_k (fun K4 k4 => ?_)
  refine wp_seq_k (fun K5 k5 => ?_)
  refine gs [.det (.bool true), .det (.bool false)] [0, 1] [0, 1] (fun L => [PV x, pt (L0.b 0) 0, pt (L0.b 1) 0, .bool false, pt (L1.b 5) 0, .int .i64 0, pt (L2.b 15) 0, .bool true, undef, undef, undef, undef, undef, undef, undef, undef, .tuple #[FV h, .int .i64 0], FV 2, .tuple #[FV h, .int .i64 0], FV h, .int .i64 0, .tuple #[FV n, .bool true], pt (L0.b 0) 0, FV x.c0, pt (L0.b 0) 0, FV x.c0, FV (x.c0 * x.c0), pt (L0.b 0) 6, FV x.c1, pt (L0.b 0) 6, FV x.c1, FV (x.c1 * x.c1), FV x.norm, .tuple #[FV n, .bool true], FV n, .bool true, .bool true, .bool false] ++ U 57) (fun L => [((L0.b 0), PC x), ((L0.b 1), PC 0), ((L1.b 5), FC h), ((L2.b 15), FC n)]) hp3 ⟨
    oM, oN,
    trivial⟩ (fun L3 w4 hp4 => ?_)
  refine k5 _ _ ?_
  refine wp_cond_false (by kernel_rfl) ?_
  refine skips ?_
  refine k4 _ _ ?_
  refine wp_seq_k (fun K6 k6 => ?_)
  refine wp_seq_k (fun K7 k7 => ?_)
  refine gs [.det (.int .i64 0)] [0] [0] (fun L => [PV x, pt (L0.b 0) 0, pt (L0.b 1) 0, .bool false, pt (L1.b 5) 0, .int .i64 0, pt (L2.b 15) 0, .bool true, .int .i64 0, undef, undef, undef, undef, undef, undef, undef, .tuple #[FV h, .int .i64 0], FV 2, .tuple #[FV h, .int .i64 0], FV h, .int .i64 0, .tuple #[FV n, .bool true], pt (L0.b 0) 0, FV x.c0, pt (L0.b 0) 0, FV x.c0, FV (x.c0 * x.c0), pt (L0.b 0) 6, FV x.c1, pt (L0.b 0) 6, FV x.c1, FV (x.c1 * x.c1), FV x.norm, .tuple #[FV n, .bool true], FV n, .bool true, .bool true, .bool false] ++ U 57) (fun L => [((L0.b 0), PC x), ((L0.b 1), PC 0), ((L1.b 5), FC h), ((L2.b 15), FC n)]) hp4 ⟨
    oA,
    trivial⟩ (fun L4 w5 hp5 => ?_)
  refine k7 _ _ ?_
  refine wp_block_k (fun K8 k8 => ?_)
  refine wp_loop_rounds 9 ?_
  refine rounds_k (fun K9 k9 => ?_)
  refine wp_seq_k (fun K10 k10 => ?_)
  refine wp_seq_k (fun K11 k11 => ?_)
  refine gs [.det (.int .i64 0), .det (.bool true)] [0, 1] [0, 1] (fun L => [PV x, pt (L0.b 0) 0, pt (L0.b 1) 0, .bool false, pt (L1.b 5) 0, .int .i64 0, pt (L2.b 15) 0, .bool true, .int .i64 0, undef, undef, undef, undef, undef, undef, undef, .tuple #[FV h, .int .i64 0], FV 2, .tuple #[FV h, .int .i64 0], FV h, .int .i64 0, .tuple #[FV n, .bool true], pt (L0.b 0) 0, FV x.c0, pt (L0.b 0) 0, FV x.c0, FV (x.c0 * x.c0), pt (L0.b 0) 6, FV x.c1, pt (L0.b 0) 6, FV x.c1, FV (x.c1 * x.c1), FV x.norm, .tuple #[FV n, .bool true], FV n, .bool true, .bool true, .bool false, undef, .int .i64 0, .bool true] ++ U 54) (fun L => [((L0.b 0), PC x), ((L0.b 1), PC 0), ((L1.b 5), FC h), ((L2.b 15), FC n)]) hp5 ⟨
    oM, oJ .i64 .i64 0 2,
    trivial⟩ (fun L5 w6 hp6 => ?_)
  refine k11 _ _ ?_
  refine wp_cond_true (by kernel_rfl) ?_
  refine skips ?_
  refine k10 _ _ ?_
  refine wp_seq_k (fun K12 k12 => ?_)
  refine wp_block_k (fun K13 k13 => ?_)
  refine wp_seq_k (fun K14 k14 => ?_)
  refine dr [.det (pt (L0.b 0) 0), .det (FV x.c0), .det (FV n), .det (FV (x.c0 + n)), .det (FV h), .det (FV ((x.c0 + n) * h)), .det (.tuple #[FV r0, .bool false]), .det (.tuple #[FV r0, .bool false]), .det (FV r0), .det (.bool false), .alloc (FC 0), .store (.new 10) 0 (FC r0) (FC r0), .det (.bool false)] [0, 1, 2, 3, 4, 5, 6, 7, 8, 9, 10, 11, 12] [0, 1, 0, 7, 0, 31, 63, 127, 255, 255, 0, 1535, 4095] (fun L => [PV x, pt (L0.b 0) 0, pt (L0.b 1) 0, .bool false, pt (L1.b 5) 0, .int .i64 0, pt (L2.b 15) 0, .bool true, .int .i64 0, pt (L.b 10) 0, .bool false, undef, undef, undef, undef, undef, .tuple #[FV h, .int .i64 0], FV 2, .tuple #[FV h, .int .i64 0], FV h, .int .i64 0, .tuple #[FV n, .bool true], pt (L0.b 0) 0, FV x.c0, pt (L0.b 0) 0, FV x.c0, FV (x.c0 * x.c0), pt (L0.b 0) 6, FV x.c1, pt (L0.b 0) 6, FV x.c1, FV (x.c1 * x.c1), FV x.norm, .tuple #[FV n, .bool true], FV n, .bool true, .bool true, .bool false, undef, .int .i64 0, .bool true, undef, undef, .tuple #[FV r0, .bool false], pt (L0.b 0) 0, FV x.c0, FV n, FV (x.c0 + n), FV h, FV ((x.c0 + n) * h), .tuple #[FV r0, .bool false], FV r0, .bool false] ++ U 42) (fun L => [((L0.b 0), PC x), ((L0.b 1), PC 0), ((L1.b 5), FC h), ((L2.b 15), FC n), (L.b 10, FC r0)]) hp6 ⟨
    oI aP, oL 0 0 rF, oL 3 0 rF, oR (fun w => R.add x.c0 n w trivial), oL 2 0 rF, oR (fun w => R.mul (x.c0 + n) h w trivial), oH (v := .tuple #[FV r0, .bool false]) (vs := #[FV ((x.c0 + n) * h)]) (fun w _ _ => by have e := R.sqrt ((x.c0 + n) * h) w trivial; rw [h0, hr0] at e; exact e),
    oM, oX, oX, oZ rF, oT rF, oA,
    trivial⟩ (fun L6 w7 hp7 => ?_)
  refine k14 _ _ ?_
  refine wp_seq_k (fun K15 k15 => ?_)
  refine gs [.det (FV n), .det (FV (-n)), .store (.base 3) 0 (FC (-n)) (FC (-n))] [0, 1, 2] [0, 1, 3] (fun L => [PV x, pt (L0.b 0) 0, pt (L0.b 1) 0, .bool false, pt (L1.b 5) 0, .int .i64 0, pt (L2.b 15) 0, .bool true, .int .i64 0, pt (L6.b 10) 0, .bool false, undef, undef, undef, undef, undef, .tuple #[FV h, .int .i64 0], FV 2, .tuple #[FV h, .int .i64 0], FV h, .int .i64 0, .tuple #[FV n, .bool true], pt (L0.b 0) 0, FV x.c0, pt (L0.b 0) 0, FV x.c0, FV (x.c0 * x.c0), pt (L0.b 0) 6, FV x.c1, pt (L0.b 0) 6, FV x.c1, FV (x.c1 * x.c1), FV x.norm, .tuple #[FV n, .bool true], FV n, .bool true, .bool true, .bool false, undef, .int .i64 0, .bool true, undef, undef, .tuple #[FV r0, .bool false], pt (L0.b 0) 0, FV x.c0, FV n, FV (x.c0 + n), FV h, FV ((x.c0 + n) * h), .tuple #[FV r0, .bool false], FV r0, .bool false, FV n, FV (-n)] ++ U 40) (fun L => [((L0.b 0), PC x), ((L0.b 1), PC 0), ((L1.b 5), FC h), ((L2.b 15), FC (-n)), ((L6.b 10), FC r0)]) hp7 ⟨
    oL 3 0 rF, oR (fun w => R.neg n w trivial), oT rF,
    trivial⟩ (fun L7 w8 hp8 => ?_)
  refine k15 _ _ ?_
  refine wp_seq_k (fun K16 k16 => ?_)
  refine wp_seq_k (fun K17 k17 => ?_)
  refine gs [.det (.bool false), .det (.bool true)] [0, 1] [0, 1] (fun L => [PV x, pt (L0.b 0) 0, pt (L0.b 1) 0, .bool false, pt (L1.b 5) 0, .int .i64 0, pt (L2.b 15) 0, .bool true, .int .i64 0, pt (L6.b 10) 0, .bool false, undef, undef, undef, undef, undef, .tuple #[FV h, .int .i64 0], FV 2, .tuple #[FV h, .int .i64 0], FV h, .int .i64 0, .tuple #[FV n, .bool true], pt (L0.b 0) 0, FV x.c0, pt (L0.b 0) 0, FV x.c0, FV (x.c0 * x.c0), pt (L0.b 0) 6, FV x.c1, pt (L0.b 0) 6, FV x.c1, FV (x.c1 * x.c1), FV x.norm, .tuple #[FV n, .bool true], FV n, .bool true, .bool true, .bool false, undef, .int .i64 0, .bool true, undef, undef, .tuple #[FV r0, .bool false], pt (L0.b 0) 0, FV x.c0, FV n, FV (x.c0 + n), FV h, FV ((x.c0 + n) * h), .tuple #[FV r0, .bool false], FV r0, .bool false, FV n, FV (-n), .bool false, .bool true] ++ U 38) (fun L => [((L0.b 0), PC x), ((L0.b 1), PC 0), ((L1.b 5), FC h), ((L2.b 15), FC (-n)), ((L6.b 10), FC r0)]) hp8 ⟨
    oM, oN,
    trivial⟩ (fun L8 w9 hp9 => ?_)
  refine k17 _ _ ?_
  refine wp_cond_true (by kernel_rfl) ?_
  refine wp_exit ?_
  refine then_exit ?_
  refine k13 _ _ _ ?_
  refine exit_in ?_
  refine k12 _ _ ?_
  refine gs [.det (.int .i64 0), .det (.int .i64 1), .det (.int .i64 1)] [0, 1, 2] [0, 1, 3] (fun L => [PV x, pt (L0.b 0) 0, pt (L0.b 1) 0, .bool false, pt (L1.b 5) 0, .int .i64 0, pt (L2.b 15) 0, .bool true, .int .i64 1, pt (L6.b 10) 0, .bool false, undef, undef, undef, undef, undef, .tuple #[FV h, .int .i64 0], FV 2, .tuple #[FV h, .int .i64 0], FV h, .int .i64 0, .tuple #[FV n, .bool true], pt (L0.b 0) 0, FV x.c0, pt (L0.b 0) 0, FV x.c0, FV (x.c0 * x.c0), pt (L0.b 0) 6, FV x.c1, pt (L0.b 0) 6, FV x.c1, FV (x.c1 * x.c1), FV x.norm, .tuple #[FV n, .bool true], FV n, .bool true, .bool true, .bool false, undef, .int .i64 0, .bool true, .int .i64 0, .int .i64 1, .tuple #[FV r0, .bool false], pt (L0.b 0) 0, FV x.c0, FV n, FV (x.c0 + n), FV h, FV ((x.c0 + n) * h), .tuple #[FV r0, .bool false], FV r0, .bool false, FV n, FV (-n), .bool false, .bool true] ++ U 38) (fun L => [((L0.b 0), PC x), ((L0.b 1), PC 0), ((L1.b 5), FC h), ((L2.b 15), FC (-n)), ((L6.b 10), FC r0)]) hp9 ⟨
    oM, oJ .i64 .i64 0 1, oA,
    trivial⟩ (fun L9 w10 hp10 => ?_)
  refine k9 _ _ _ ?_
  refine then_normal ?_
  refine rounds_k (fun K18 k18 => ?_)
  refine wp_seq_k (fun K19 k19 => ?_)
  refine wp_seq_k (fun K20 k20 => ?_)
  refine gs [.det (.int .i64 1), .det (.bool true)] [0, 1] [0, 1] (fun L => [PV x, pt (L0.b 0) 0, pt (L0.b 1) 0, .bool false, pt (L1.b 5) 0, .int .i64 0, pt (L2.b 15) 0, .bool true, .int .i64 1, pt (L6.b 10) 0, .bool false, undef, undef, undef, undef, undef, .tuple #[FV h, .int .i64 0], FV 2, .tuple #[FV h, .int .i64 0], FV h, .int .i64 0, .tuple #[FV n, .bool true], pt (L0.b 0) 0, FV x.c0, pt (L0.b 0) 0, FV x.c0, FV (x.c0 * x.c0), pt (L0.b 0) 6, FV x.c1, pt (L0.b 0) 6, FV x.c1, FV (x.c1 * x.c1), FV x.norm, .tuple #[FV n, .bool true], FV n, .bool true, .bool true, .bool false, undef, .int .i64 1, .bool true, .int .i64 0, .int .i64 1, .tuple #[FV r0, .bool false], pt (L0.b 0) 0, FV x.c0, FV n, FV (x.c0 + n), FV h, FV ((x.c0 + n) * h), .tuple #[FV r0, .bool false], FV r0, .bool false, FV n, FV (-n), .bool false, .bool true] ++ U 38) (fun L => [((L0.b 0), PC x), ((L0.b 1), PC 0), ((L1.b 5), FC h), ((L2.b 15), FC (-n)), ((L6.b 10), FC r0)]) hp10 ⟨
    oM, oJ .i64 .i64 1 2,
    trivial⟩ (fun L10 w11 hp11 => ?_)
  refine k20 _ _ ?_
  refine wp_cond_true (by kernel_rfl) ?_
  refine skips ?_
  refine k19 _ _ ?_
  refine wp_seq_k (fun K21 k21 => ?_)
  refine wp_block_k (fun K22 k22 => ?_)
  refine wp_seq_k (fun K23 k23 => ?_)
  refine dr [.det (pt (L0.b 0) 0), .det (FV x.c0), .det (FV (-n)), .det (FV (x.c0 + (-n))), .det (FV h), .det (FV ((x.c0 + (-n)) * h)), .det (.tuple #[FV r, .bool true]), .det (.tuple #[FV r, .bool true]), .det (FV r), .det (.bool true), .alloc (FC 0), .store (.new 10) 0 (FC r) (FC r), .det (.bool true)] [0, 1, 2, 3, 4, 5, 6, 7, 8, 9, 10, 11, 12] [0, 1, 0, 7, 0, 31, 63, 127, 255, 255, 0, 1535, 4095] (fun L => [PV x, pt (L0.b 0) 0, pt (L0.b 1) 0, .bool false, pt (L1.b 5) 0, .int .i64 0, pt (L2.b 15) 0, .bool true, .int .i64 1, pt (L.b 10) 0, .bool true, undef, undef, undef, undef, undef, .tuple #[FV h, .int .i64 0], FV 2, .tuple #[FV h, .int .i64 0], FV h, .int .i64 0, .tuple #[FV n, .bool true], pt (L0.b 0) 0, FV x.c0, pt (L0.b 0) 0, FV x.c0, FV (x.c0 * x.c0), pt (L0.b 0) 6, FV x.c1, pt (L0.b 0) 6, FV x.c1, FV (x.c1 * x.c1), FV x.norm, .tuple #[FV n, .bool true], FV n, .bool true, .bool true, .bool false, undef, .int .i64 1, .bool true, .int .i64 0, .int .i64 1, .tuple #[FV r, .bool true], pt (L0.b 0) 0, FV x.c0, FV (-n), FV (x.c0 + (-n)), FV h, FV ((x.c0 + (-n)) * h), .tuple #[FV r, .bool true], FV r, .bool true, FV n, FV (-n), .bool false, .bool true] ++ U 38) (fun L => [((L0.b 0), PC x), ((L0.b 1), PC 0), ((L1.b 5), FC h), ((L2.b 15), FC (-n)), ((L6.b 10), FC r0), (L.b 10, FC r)]) hp11 ⟨
    oI aP, oL 0 0 rF, oL 3 0 rF, oR (fun w => R.add x.c0 (-n) w trivial), oL 2 0 rF, oR (fun w => R.mul (x.c0 + (-n)) h w trivial), oH (v := .tuple #[FV r, .bool true]) (vs := #[FV ((x.c0 + (-n)) * h)]) (fun w _ _ => by have e := R.sqrt ((x.c0 + (-n)) * h) w trivial; rw [h1, hr] at e; exact e),
    oM, oX, oX, oZ rF, oT rF, oA,
    trivial⟩ (fun L11 w12 hp12 => ?_)
  refine k23 _ _ ?_
  refine wp_seq_k (fun K24 k24 => ?_)
  refine gs [.det (FV (-n)), .det (FV (-(-n))), .store (.base 3) 0 (FC (-(-n))) (FC (-(-n)))] [0, 1, 2] [0, 1, 3] (fun L => [PV x, pt (L0.b 0) 0, pt (L0.b 1) 0, .bool false, pt (L1.b 5) 0, .int .i64 0, pt (L2.b 15) 0, .bool true, .int .i64 1, pt (L11.b 10) 0, .bool true, undef, undef, undef, undef, undef, .tuple #[FV h, .int .i64 0], FV 2, .tuple #[FV h, .int .i64 0], FV h, .int .i64 0, .tuple #[FV n, .bool true], pt (L0.b 0) 0, FV x.c0, pt (L0.b 0) 0, FV x.c0, FV (x.c0 * x.c0), pt (L0.b 0) 6, FV x.c1, pt (L0.b 0) 6, FV x.c1, FV (x.c1 * x.c1), FV x.norm, .tuple #[FV n, .bool true], FV n, .bool true, .bool true, .bool false, undef, .int .i64 1, .bool true, .int .i64 0, .int .i64 1, .tuple #[FV r, .bool true], pt (L0.b 0) 0, FV x.c0, FV (-n), FV (x.c0 + (-n)), FV h, FV ((x.c0 + (-n)) * h), .tuple #[FV r, .bool true], FV r, .bool true, FV (-n), FV (-(-n)), .bool false, .bool true] ++ U 38) (fun L => [((L0.b 0), PC x), ((L0.b 1), PC 0), ((L1.b 5), FC h), ((L2.b 15), FC (-(-n))), ((L6.b 10), FC r0), ((L11.b 10), FC r)]) hp12 ⟨
    oL 3 0 rF, oR (fun w => R.neg (-n) w trivial), oT rF,
    trivial⟩ (fun L12 w13 hp13 => ?_)
  refine k24 _ _ ?_
  refine wp_seq_k (fun K25 k25 => ?_)
  refine wp_seq_k (fun K26 k26 => ?_)
  refine gs [.det (.bool true), .det (.bool false)] [0, 1] [0, 1] (fun L => [PV x, pt (L0.b 0) 0, pt (L0.b 1) 0, .bool false, pt (L1.b 5) 0, .int .i64 0, pt (L2.b 15) 0, .bool true, .int .i64 1, pt (L11.b 10) 0, .bool true, undef, undef, undef, undef, undef, .tuple #[FV h, .int .i64 0], FV 2, .tuple #[FV h, .int .i64 0], FV h, .int .i64 0, .tuple #[FV n, .bool true], pt (L0.b 0) 0, FV x.c0, pt (L0.b 0) 0, FV x.c0, FV (x.c0 * x.c0), pt (L0.b 0) 6, FV x.c1, pt (L0.b 0) 6, FV x.c1, FV (x.c1 * x.c1), FV x.norm, .tuple #[FV n, .bool true], FV n, .bool true, .bool true, .bool false, undef, .int .i64 1, .bool true, .int .i64 0, .int .i64 1, .tuple #[FV r, .bool true], pt (L0.b 0) 0, FV x.c0, FV (-n), FV (x.c0 + (-n)), FV h, FV ((x.c0 + (-n)) * h), .tuple #[FV r, .bool true], FV r, .bool true, FV (-n), FV (-(-n)), .bool true, .bool false] ++ U 38) (fun L => [((L0.b 0), PC x), ((L0.b 1), PC 0), ((L1.b 5), FC h), ((L2.b 15), FC (-(-n))), ((L6.b 10), FC r0), ((L11.b 10), FC r)]) hp13 ⟨
    oM, oN,
    trivial⟩ (fun L13 w14 hp14 => ?_)
  refine k26 _ _ ?_
  refine wp_cond_false (by kernel_rfl) ?_
  refine skips ?_
  refine k25 _ _ ?_
  refine wp_seq_k (fun K27 k27 => ?_)
  refine gs [.det (pt (L0.b 0) 0), .det (FV x.c0), .det (FV (-x.c0)), .det (.tuple #[FV m, .bool true]), .det (.tuple #[FV m, .bool true]), .det (FV m), .det (.bool true), .alloc (FC 0), .store (.new 7) 0 (FC m) (FC m), .det (.bool true)] [0, 1, 2, 3, 4, 5, 6, 7, 8, 9] [0, 1, 3, 7, 15, 31, 31, 0, 191, 511] (fun L => [PV x, pt (L0.b 0) 0, pt (L0.b 1) 0, .bool false, pt (L1.b 5) 0, .int .i64 0, pt (L2.b 15) 0, .bool true, .int .i64 1, pt (L11.b 10) 0, .bool true, pt (L.b 7) 0, .bool true, undef, undef, undef, .tuple #[FV h, .int .i64 0], FV 2, .tuple #[FV h, .int .i64 0], FV h, .int .i64 0, .tuple #[FV n, .bool true], pt (L0.b 0) 0, FV x.c0, pt (L0.b 0) 0, FV x.c0, FV (x.c0 * x.c0), pt (L0.b 0) 6, FV x.c1, pt (L0.b 0) 6, FV x.c1, FV (x.c1 * x.c1), FV x.norm, .tuple #[FV n, .bool true], FV n, .bool true, .bool true, .bool false, undef, .int .i64 1, .bool true, .int .i64 0, .int .i64 1, .tuple #[FV r, .bool true], pt (L0.b 0) 0, FV x.c0, FV (-n), FV (x.c0 + (-n)), FV h, FV ((x.c0 + (-n)) * h), .tuple #[FV r, .bool true], FV r, .bool true, FV (-n), FV (-(-n)), .bool true, .bool false, .tuple #[FV m, .bool true], pt (L0.b 0) 0, FV x.c0, FV (-x.c0), .tuple #[FV m, .bool true], FV m, .bool true] ++ U 31) (fun L => [((L0.b 0), PC x), ((L0.b 1), PC 0), ((L1.b 5), FC h), ((L2.b 15), FC (-(-n))), ((L6.b 10), FC r0), ((L11.b 10), FC r), (L.b 7, FC m)]) hp14 ⟨
    oI aP, oL 0 0 rF, oR (fun w => R.neg x.c0 w trivial), oH (v := .tuple #[FV m, .bool true]) (vs := #[FV (-x.c0)]) (fun w _ _ => by have e := R.sqrt (-x.c0) w trivial; rw [hb, hm] at e; exact e),
    oM, oX, oX, oZ rF, oT rF, oA,
    trivial⟩ (fun L14 w15 hp15 => ?_)
  refine k27 _ _ ?_
  refine wp_seq_k (fun K28 k28 => ?_)
  refine wp_seq_k (fun K29 k29 => ?_)
  refine gs [.det (FV r), .det (FV 0), .det (.bool false)] [0, 1, 2] [0, 0, 3] (fun L => [PV x, pt (L0.b 0) 0, pt (L0.b 1) 0, .bool false, pt (L1.b 5) 0, .int .i64 0, pt (L2.b 15) 0, .bool true, .int .i64 1, pt (L11.b 10) 0, .bool true, pt (L14.b 7) 0, .bool true, undef, undef, undef, .tuple #[FV h, .int .i64 0], FV 2, .tuple #[FV h, .int .i64 0], FV h, .int .i64 0, .tuple #[FV n, .bool true], pt (L0.b 0) 0, FV x.c0, pt (L0.b 0) 0, FV x.c0, FV (x.c0 * x.c0), pt (L0.b 0) 6, FV x.c1, pt (L0.b 0) 6, FV x.c1, FV (x.c1 * x.c1), FV x.norm, .tuple #[FV n, .bool true], FV n, .bool true, .bool true, .bool false, undef, .int .i64 1, .bool true, .int .i64 0, .int .i64 1, .tuple #[FV r, .bool true], pt (L0.b 0) 0, FV x.c0, FV (-n), FV (x.c0 + (-n)), FV h, FV ((x.c0 + (-n)) * h), .tuple #[FV r, .bool true], FV r, .bool true, FV (-n), FV (-(-n)), .bool true, .bool false, .tuple #[FV m, .bool true], pt (L0.b 0) 0, FV x.c0, FV (-x.c0), .tuple #[FV m, .bool true], FV m, .bool true, FV r, FV 0, .bool false] ++ U 28) (fun L => [((L0.b 0), PC x), ((L0.b 1), PC 0), ((L1.b 5), FC h), ((L2.b 15), FC (-(-n))), ((L6.b 10), FC r0), ((L11.b 10), FC r), ((L14.b 7), FC m)]) hp15 ⟨
    oL 5 0 rF, oD buildF0, oU (a := r) (b := 0) qF (nay' h00),
    trivial⟩ (fun L15 w16 hp16 => ?_)
  refine k29 _ _ ?_
  refine wp_cond_false (by kernel_rfl) ?_
  refine skips ?_
  refine k28 _ _ ?_
  refine wp_seq_k (fun K30 k30 => ?_)
  refine gs [.det (FV r), .det (FV m), .det (PV ⟨r, m⟩), .alloc (PC 0), .store (.new 3) 0 (PC ⟨r, m⟩) (PC ⟨r, m⟩)] [0, 1, 2, 3, 4] [0, 0, 3, 0, 15] (fun L => [PV x, pt (L0.b 0) 0, pt (L0.b 1) 0, .bool false, pt (L1.b 5) 0, .int .i64 0, pt (L2.b 15) 0, .bool true, .int .i64 1, pt (L11.b 10) 0, .bool true, pt (L14.b 7) 0, .bool true, undef, undef, pt (L.b 3) 0, .tuple #[FV h, .int .i64 0], FV 2, .tuple #[FV h, .int .i64 0], FV h, .int .i64 0, .tuple #[FV n, .bool true], pt (L0.b 0) 0, FV x.c0, pt (L0.b 0) 0, FV x.c0, FV (x.c0 * x.c0), pt (L0.b 0) 6, FV x.c1, pt (L0.b 0) 6, FV x.c1, FV (x.c1 * x.c1), FV x.norm, .tuple #[FV n, .bool true], FV n, .bool true, .bool true, .bool false, undef, .int .i64 1, .bool true, .int .i64 0, .int .i64 1, .tuple #[FV r, .bool true], pt (L0.b 0) 0, FV x.c0, FV (-n), FV (x.c0 + (-n)), FV h, FV ((x.c0 + (-n)) * h), .tuple #[FV r, .bool true], FV r, .bool true, FV (-n), FV (-(-n)), .bool true, .bool false, .tuple #[FV m, .bool true], pt (L0.b 0) 0, FV x.c0, FV (-x.c0), .tuple #[FV m, .bool true], FV m, .bool true, FV r, FV 0, .bool false, undef, undef, undef, undef, undef, undef, undef, undef, undef, undef, undef, FV r, FV m, PV ⟨r, m⟩] ++ U 14) (fun L => [((L0.b 0), PC x), ((L0.b 1), PC 0), ((L1.b 5), FC h), ((L2.b 15), FC (-(-n))), ((L6.b 10), FC r0), ((L11.b 10), FC r), ((L14.b 7), FC m), (L.b 3, PC ⟨r, m⟩)]) hp16 ⟨
    oL 5 0 rF, oL 6 0 rF, oD (buildP r m), oZ rP, oT rP,
    trivial⟩ (fun L16 w17 hp17 => ?_)
  refine k30 _ _ ?_
  refine wp_seq_k (fun K31 k31 => ?_)
  refine dr [.det (.bool true), .det (.bool true), .det (PV ⟨r, m⟩), .det (PV ⟨r, m⟩), .det (PV x), .det (PV x), .det (.bool true), .det (.bool true)] [0, 1, 2, 3, 4, 5, 6, 7] [0, 1, 3, 3, 15, 3, 63, 127] (fun L => [PV x, pt (L0.b 0) 0, pt (L0.b 1) 0, .bool false, pt (L1.b 5) 0, .int .i64 0, pt (L2.b 15) 0, .bool true, .int .i64 1, pt (L11.b 10) 0, .bool true, pt (L14.b 7) 0, .bool true, undef, undef, pt (L16.b 3) 0, .tuple #[FV h, .int .i64 0], FV 2, .tuple #[FV h, .int .i64 0], FV h, .int .i64 0, .tuple #[FV n, .bool true], pt (L0.b 0) 0, FV x.c0, pt (L0.b 0) 0, FV x.c0, FV (x.c0 * x.c0), pt (L0.b 0) 6, FV x.c1, pt (L0.b 0) 6, FV x.c1, FV (x.c1 * x.c1), FV x.norm, .tuple #[FV n, .bool true], FV n, .bool true, .bool true, .bool false, undef, .int .i64 1, .bool true, .int .i64 0, .int .i64 1, .tuple #[FV r, .bool true], pt (L0.b 0) 0, FV x.c0, FV (-n), FV (x.c0 + (-n)), FV h, FV ((x.c0 + (-n)) * h), .tuple #[FV r, .bool true], FV r, .bool true, FV (-n), FV (-(-n)), .bool true, .bool false, .tuple #[FV m, .bool true], pt (L0.b 0) 0, FV x.c0, FV (-x.c0), .tuple #[FV m, .bool true], FV m, .bool true, FV r, FV 0, .bool false, undef, undef, undef, undef, undef, undef, undef, undef, undef, undef, undef, FV r, FV m, PV ⟨r, m⟩, .bool true, .bool true, PV ⟨r, m⟩, PV ⟨r, m⟩, PV x, PV x, .bool true, .bool true] ++ U 6) (fun L => [((L0.b 0), PC x), ((L0.b 1), PC 0), ((L1.b 5), FC h), ((L2.b 15), FC (-(-n))), ((L6.b 10), FC r0), ((L11.b 10), FC r), ((L14.b 7), FC m), ((L16.b 3), PC ⟨r, m⟩)]) hp17 ⟨
    oM, oM, oL 7 0 rP, oL 7 0 rP, oH (v := PV x) (vs := #[PV ⟨r, m⟩, PV ⟨r, m⟩]) (fun w _ _ => by have e := ref5Mul2 R ⟨r, m⟩ ⟨r, m⟩ w; rw [hz] at e; exact e), oL 0 0 rP,
    oE (a := x) (b := x) qP (yes rfl), oP,
    trivial⟩ (fun L17 w18 hp18 => ?_)
  refine k31 _ _ ?_
  refine wp_cond_true (by kernel_rfl) ?_
  refine wp_seq_k (fun K32 k32 => ?_)
  refine wp_seq_k (fun K33 k33 => ?_)
  refine gs [.det (PV ⟨r, m⟩), .det (.bool gr)] [0, 1] [0, 1] (fun L => [PV x, pt (L0.b 0) 0, pt (L0.b 1) 0, .bool false, pt (L1.b 5) 0, .int .i64 0, pt (L2.b 15) 0, .bool true, .int .i64 1, pt (L11.b 10) 0, .bool true, pt (L14.b 7) 0, .bool true, undef, undef, pt (L16.b 3) 0, .tuple #[FV h, .int .i64 0], FV 2, .tuple #[FV h, .int .i64 0], FV h, .int .i64 0, .tuple #[FV n, .bool true], pt (L0.b 0) 0, FV x.c0, pt (L0.b 0) 0, FV x.c0, FV (x.c0 * x.c0), pt (L0.b 0) 6, FV x.c1, pt (L0.b 0) 6, FV x.c1, FV (x.c1 * x.c1), FV x.norm, .tuple #[FV n, .bool true], FV n, .bool true, .bool true, .bool false, undef, .int .i64 1, .bool true, .int .i64 0, .int .i64 1, .tuple #[FV r, .bool true], pt (L0.b 0) 0, FV x.c0, FV (-n), FV (x.c0 + (-n)), FV h, FV ((x.c0 + (-n)) * h), .tuple #[FV r, .bool true], FV r, .bool true, FV (-n), FV (-(-n)), .bool true, .bool false, .tuple #[FV m, .bool true], pt (L0.b 0) 0, FV x.c0, FV (-x.c0), .tuple #[FV m, .bool true], FV m, .bool true, FV r, FV 0, .bool false, undef, undef, undef, undef, undef, undef, undef, undef, undef, undef, undef, FV r, FV m, PV ⟨r, m⟩, .bool true, .bool true, PV ⟨r, m⟩, PV ⟨r, m⟩, PV x, PV x, .bool true, .bool true, PV ⟨r, m⟩, .bool gr] ++ U 4) (fun L => [((L0.b 0), PC x), ((L0.b 1), PC 0), ((L1.b 5), FC h), ((L2.b 15), FC (-(-n))), ((L6.b 10), FC r0), ((L11.b 10), FC r), ((L14.b 7), FC m), ((L16.b 3), PC ⟨r, m⟩)]) hp18 ⟨
    oL 7 0 rP, oH (v := .bool gr) (vs := #[PV ⟨r, m⟩]) (fun w _ _ => by have e := ref5Great2 R ⟨r, m⟩ w; rw [hG] at e; exact e),
    trivial⟩ (fun L18 w19 hp19 => ?_)
  refine k33 _ _ ?_
  cases gr
  · skip
    refine wp_cond_false (by kernel_rfl) ?_
    refine skips ?_
    refine k32 _ _ ?_
    refine wp_seq_k (fun K34 k34 => ?_)
    refine gs [.det (PV ⟨r, m⟩), .store (.base 1) 0 (PC ⟨r, m⟩) (PC ⟨r, m⟩), .det (.bool true)] [0, 1, 2] [0, 1, 3] (fun L => [PV x, pt (L0.b 0) 0, pt (L0.b 1) 0, .bool true, pt (L1.b 5) 0, .int .i64 0, pt (L2.b 15) 0, .bool true, .int .i64 1, pt (L11.b 10) 0, .bool true, pt (L14.b 7) 0, .bool true, undef, undef, pt (L16.b 3) 0, .tuple #[FV h, .int .i64 0], FV 2, .tuple #[FV h, .int .i64 0], FV h, .int .i64 0, .tuple #[FV n, .bool true], pt (L0.b 0) 0, FV x.c0, pt (L0.b 0) 0, FV x.c0, FV (x.c0 * x.c0), pt (L0.b 0) 6, FV x.c1, pt (L0.b 0) 6, FV x.c1, FV (x.c1 * x.c1), FV x.norm, .tuple #[FV n, .bool true], FV n, .bool true, .bool true, .bool false, undef, .int .i64 1, .bool true, .int .i64 0, .int .i64 1, .tuple #[FV r, .bool true], pt (L0.b 0) 0, FV x.c0, FV (-n), FV (x.c0 + (-n)), FV h, FV ((x.c0 + (-n)) * h), .tuple #[FV r, .bool true], FV r, .bool true, FV (-n), FV (-(-n)), .bool true, .bool false, .tuple #[FV m, .bool true], pt (L0.b 0) 0, FV x.c0, FV (-x.c0), .tuple #[FV m, .bool true], FV m, .bool true, FV r, FV 0, .bool false, undef, undef, undef, undef, undef, undef, undef, undef, undef, undef, undef, FV r, FV m, PV ⟨r, m⟩, .bool true, .bool true, PV ⟨r, m⟩, PV ⟨r, m⟩, PV x, PV x, .bool true, .bool true, PV ⟨r, m⟩, .bool false, undef, undef, PV ⟨r, m⟩, undef]) (fun L => [((L0.b 0), PC x), ((L0.b 1), PC ⟨r, m⟩), ((L1.b 5), FC h), ((L2.b 15), FC (-(-n))), ((L6.b 10), FC r0), ((L11.b 10), FC r), ((L14.b 7), FC m), ((L16.b 3), PC ⟨r, m⟩)]) hp19 ⟨
      oL 7 0 rP, oT rP, oA,
      trivial⟩ (fun L19 w20 hp20 => ?_)
    refine k34 _ _ ?_
    refine wp_ret ?_
    refine k22 _ _ _ ?_
    refine k18 _ _ _ ?_
    refine k8 _ _ _ ?_
    refine bodyPost_ret (v := .tuple #[PV ⟨r, m⟩, .bool true]) ?_ rfl ?_
    · exact rct rP rfl (by kernel_rfl) (by kernel_rfl) (hp20.bound 1 rfl).2
    · exact ⟨rfl, hp20.bel⟩
  · skip
    refine wp_cond_true (by kernel_rfl) ?_
    refine gs [.det (PV ⟨r, m⟩), .det (PV (-⟨r, m⟩)), .store (.base 7) 0 (PC (-⟨r, m⟩)) (PC (-⟨r, m⟩))] [0, 1, 2] [0, 1, 3] (fun L => [PV x, pt (L0.b 0) 0, pt (L0.b 1) 0, .bool false, pt (L1.b 5) 0, .int .i64 0, pt (L2.b 15) 0, .bool true, .int .i64 1, pt (L11.b 10) 0, .bool true, pt (L14.b 7) 0, .bool true, undef, undef, pt (L16.b 3) 0, .tuple #[FV h, .int .i64 0], FV 2, .tuple #[FV h, .int .i64 0], FV h, .int .i64 0, .tuple #[FV n, .bool true], pt (L0.b 0) 0, FV x.c0, pt (L0.b 0) 0, FV x.c0, FV (x.c0 * x.c0), pt (L0.b 0) 6, FV x.c1, pt (L0.b 0) 6, FV x.c1, FV (x.c1 * x.c1), FV x.norm, .tuple #[FV n, .bool true], FV n, .bool true, .bool true, .bool false, undef, .int .i64 1, .bool true, .int .i64 0, .int .i64 1, .tuple #[FV r, .bool true], pt (L0.b 0) 0, FV x.c0, FV (-n), FV (x.c0 + (-n)), FV h, FV ((x.c0 + (-n)) * h), .tuple #[FV r, .bool true], FV r, .bool true, FV (-n), FV (-(-n)), .bool true, .bool false, .tuple #[FV m, .bool true], pt (L0.b 0) 0, FV x.c0, FV (-x.c0), .tuple #[FV m, .bool true], FV m, .bool true, FV r, FV 0, .bool false, undef, undef, undef, undef, undef, undef, undef, undef, undef, undef, undef, FV r, FV m, PV ⟨r, m⟩, .bool true, .bool true, PV ⟨r, m⟩, PV ⟨r, m⟩, PV x, PV x, .bool true, .bool true, PV ⟨r, m⟩, .bool true, PV ⟨r, m⟩, PV (-⟨r, m⟩), undef, undef]) (fun L => [((L0.b 0), PC x), ((L0.b 1), PC 0), ((L1.b 5), FC h), ((L2.b 15), FC (-(-n))), ((L6.b 10), FC r0), ((L11.b 10), FC r), ((L14.b 7), FC m), ((L16.b 3), PC (-⟨r, m⟩))]) hp19 ⟨
      oL 7 0 rP, oR (ref5Neg2 R ⟨r, m⟩), oT rP,
      trivial⟩ (fun L19 w20 hp20 => ?_)
    refine k32 _ _ ?_
    refine wp_seq_k (fun K34 k34 => ?_)
    refine gs [.det (PV (-⟨r, m⟩)), .store (.base 1) 0 (PC (-⟨r, m⟩)) (PC (-⟨r, m⟩)), .det (.bool true)] [0, 1, 2] [0, 1, 3] (fun L => [PV x, pt (L0.b 0) 0, pt (L0.b 1) 0, .bool true, pt (L1.b 5) 0, .int .i64 0, pt (L2.b 15) 0, .bool true, .int .i64 1, pt (L11.b 10) 0, .bool true, pt (L14.b 7) 0, .bool true, undef, undef, pt (L16.b 3) 0, .tuple #[FV h, .int .i64 0], FV 2, .tuple #[FV h, .int .i64 0], FV h, .int .i64 0, .tuple #[FV n, .bool true], pt (L0.b 0) 0, FV x.c0, pt (L0.b 0) 0, FV x.c0, FV (x.c0 * x.c0), pt (L0.b 0) 6, FV x.c1, pt (L0.b 0) 6, FV x.c1, FV (x.c1 * x.c1), FV x.norm, .tuple #[FV n, .bool true], FV n, .bool true, .bool true, .bool false, undef, .int .i64 1, .bool true, .int .i64 0, .int .i64 1, .tuple #[FV r, .bool true], pt (L0.b 0) 0, FV x.c0, FV (-n), FV (x.c0 + (-n)), FV h, FV ((x.c0 + (-n)) * h), .tuple #[FV r, .bool true], FV r, .bool true, FV (-n), FV (-(-n)), .bool true, .bool false, .tuple #[FV m, .bool true], pt (L0.b 0) 0, FV x.c0, FV (-x.c0), .tuple #[FV m, .bool true], FV m, .bool true, FV r, FV 0, .bool false, undef, undef, undef, undef, undef, undef, undef, undef, undef, undef, undef, FV r, FV m, PV ⟨r, m⟩, .bool true, .bool true, PV ⟨r, m⟩, PV ⟨r, m⟩, PV x, PV x, .bool true, .bool true, PV ⟨r, m⟩, .bool true, PV ⟨r, m⟩, PV (-⟨r, m⟩), PV (-⟨r, m⟩), undef]) (fun L => [((L0.b 0), PC x), ((L0.b 1), PC (-⟨r, m⟩)), ((L1.b 5), FC h), ((L2.b 15), FC (-(-n))), ((L6.b 10), FC r0), ((L11.b 10), FC r), ((L14.b 7), FC m), ((L16.b 3), PC (-⟨r, m⟩))]) hp20 ⟨
      oL 7 0 rP, oT rP, oA,
      trivial⟩ (fun L20 w21 hp21 => ?_)
    refine k34 _ _ ?_
    refine wp_ret ?_
    refine k22 _ _ _ ?_
    refine k18 _ _ _ ?_
    refine k8 _ _ _ ?_
    refine bodyPost_ret (v := .tuple #[PV (-⟨r, m⟩), .bool true]) ?_ rfl ?_
    · exact rct rP rfl (by kernel_rfl) (by kernel_rfl) (hp21.bound 1 rfl).2
    · exact ⟨rfl, hp21.bel⟩
end Go.Proofs.YthehnlpgmkjefaaDoor.fpn

/- The reference's roots of pairs: which is told. -/
namespace Go.Proofs.YthehnlpgmkjefaaDoor.fpn
open Go.RowKit Pl
set_option linter.unusedVariables false
set_option linter.unusedSimpArgs false
set_option maxRecDepth 4000

theorem F2.fzz (z : F) (hz : z = 0) : z * z = 0 := by subst hz; rfl
theorem F2.fnz (z : F) (hz : z = 0) : -z = 0 := by grind
theorem fadd_comm (a b : F) : a + b = b + a := by grind
theorem fmul_comm (a b : F) : a * b = b * a := by grind
theorem sq_fin {x z : F2} {w : World} (hz : z * z = x) (T : z.great = true → Calls Tryd.prog 55 #[PV x] w (Ret (.tuple #[PV (-z), .bool true]) w)) (N : z.great = false → Calls Tryd.prog 55 #[PV x] w (Ret (.tuple #[PV z, .bool true]) w)) : Calls Tryd.prog 55 #[PV x] w (Ret (.tuple #[PV x.sq2, .bool x.is2]) w) := by
  rw [F2.is2_of hz]
  cases hG : z.great with
  | true =>
    have h0 : z ≠ 0 := fun e => by rw [e, F2.great_zero'] at hG; cases hG
    rw [F2.sq2_of (r := -z) (by rw [F2.neg_mul_neg']; exact hz) (by rw [F2.great_neg' h0, hG]; rfl)]
    exact T hG
  | false =>
    rw [F2.sq2_of hz hG]
    exact N hG

theorem ih (i : F) (h : 2 * i = 1) : i + i = 1 := by grind
theorem dbl (i a : F) (h : i + i = 1) : a * i + a * i = a := by
  have : a * i + a * i = a * (i + i) := by grind
  rw [this, h]; grind
theorem subn (c n : F) : c + (-n) = c - n := by grind
theorem flat0 (r c s : F) (h : r = 0) (hs : s * s = -c) : r * r - s * s = c := by subst h; grind
theorem flat1 (r c s : F) (h : r = 0) (hc : c = 0) : r * s + s * r = c := by subst h; grind
theorem z_sum (a b c : F) (h : a + b = c) (h0 : a = 0) : b = c := by grind
theorem z_sum' (a b c : F) (h : a + b = c) (h0 : b = 0) : a = c := by grind
theorem z_pr (a b c : F) (h : 4 * (a * b) = -(c * c)) (h0 : a = 0) : c * c = 0 := by subst h0; grind
theorem z_pr' (a b c i : F) (h : 4 * (a * b) = -(c * c)) (h0 : c = 0) (hi : i + i = 1) : a * b = 0 := by
  have e : (i + i) * (i + i) * (a * b) = i * i * (4 * (a * b)) := by grind
  rw [h, hi, h0] at e
  grind
theorem sq_zero {a : F} (h : a * a = 0) : a = 0 := by rcases no_zero h with h | h <;> exact h
theorem nn (c : F) : -(-c) = c := by grind

theorem ref5Sqrt2 (R : RefK) (x : F2) (w : World) : Calls Tryd.prog 55 #[PV x] w (Ret (.tuple #[PV x.sq2, .bool x.is2]) w) := by
  by_cases hq : isq x.norm = true
  · have hh : finv 2 + finv 2 = 1 := ih _ (finv_mul two_ne)
    have hn := root_sq hq
    have e0 : ((x.c0 + (root x.norm)) * (finv 2)) + ((x.c0 + (root x.norm)) * (finv 2)) = x.c0 + (root x.norm) := dbl _ _ hh
    have e1 : ((x.c0 + (-(root x.norm))) * (finv 2)) + ((x.c0 + (-(root x.norm))) * (finv 2)) = x.c0 - (root x.norm) := (dbl _ _ hh).trans (subn _ _)
    have hs : ((x.c0 + (root x.norm)) * (finv 2)) + ((x.c0 + (-(root x.norm))) * (finv 2)) = x.c0 := F2.halve (finv_mul two_ne) (F2.sum2 e0 e1)
    have h4 : 4 * (((x.c0 + (root x.norm)) * (finv 2)) * ((x.c0 + (-(root x.norm))) * (finv 2))) = -(x.c1 * x.c1) := F2.prod4 e0 e1 hn
    have hs' : ((x.c0 + (-(root x.norm))) * (finv 2)) + ((x.c0 + (root x.norm)) * (finv 2)) = x.c0 := (fadd_comm _ _).trans hs
    have h4' : 4 * (((x.c0 + (-(root x.norm))) * (finv 2)) * ((x.c0 + (root x.norm)) * (finv 2))) = -(x.c1 * x.c1) := by rw [fmul_comm ((x.c0 + (-(root x.norm))) * (finv 2)) ((x.c0 + (root x.norm)) * (finv 2))]; exact h4
    by_cases h0 : isq ((x.c0 + (root x.norm)) * (finv 2)) = true
    · have r0 := root_sq h0
      by_cases hi : root ((x.c0 + (root x.norm)) * (finv 2)) = 0
      · have z0 : ((x.c0 + (root x.norm)) * (finv 2)) = 0 := by rw [← r0, hi]; exact F2.fzz 0 rfl
        have c1 : x.c1 = 0 := sq_zero (z_pr _ _ _ h4 z0)
        have e2 : ((x.c0 + (-(root x.norm))) * (finv 2)) = x.c0 := z_sum _ _ _ hs z0
        by_cases hm : isq (-x.c0) = true
        · have hz : (⟨(root ((x.c0 + (root x.norm)) * (finv 2))), (root (-x.c0))⟩ : F2) * ⟨(root ((x.c0 + (root x.norm)) * (finv 2))), (root (-x.c0))⟩ = x := F2.ext' (flat0 _ _ _ hi (root_sq hm)) (flat1 _ _ _ hi c1)
          exact sq_fin hz (sqB R x w hq rfl rfl rfl hm h0 rfl hi hz) (sqB R x w hq rfl rfl rfl hm h0 rfl hi hz)
        · have hm' : isq (-x.c0) = false := by simpa using hm
          have hc : isq x.c0 = true := by have := isq_neg hm'; rw [nn] at this; exact this
          have h1 : isq ((x.c0 + (-(root x.norm))) * (finv 2)) = true := by rw [e2]; exact hc
          have c0 : x.c0 ≠ 0 := fun e => isq_neq hm' (by rw [e]; exact F2.fnz 0 rfl)
          have i1 : root ((x.c0 + (-(root x.norm))) * (finv 2)) ≠ 0 := root_ne h1 (by rw [e2]; exact c0)
          have hz := F2.cross_root hh hs' h4' (root_sq h1) (finv_mul i1)
          exact sq_fin hz (sqC R x w hq rfl rfl rfl hm' h0 rfl hi h1 rfl i1 rfl rfl hz) (sqC R x w hq rfl rfl rfl hm' h0 rfl hi h1 rfl i1 rfl rfl hz)
      · have hz := F2.cross_root hh hs h4 r0 (finv_mul hi)
        exact sq_fin hz (sqA R x w hq rfl rfl rfl rfl h0 rfl hi rfl rfl hz) (sqA R x w hq rfl rfl rfl rfl h0 rfl hi rfl rfl hz)
    · have h0' : isq ((x.c0 + (root x.norm)) * (finv 2)) = false := by simpa using h0
      by_cases c1 : x.c1 = 0
      · have z1 : ((x.c0 + (-(root x.norm))) * (finv 2)) = 0 := by
          rcases no_zero (z_pr' _ _ _ _ h4 c1 hh) with h | h
          · exact absurd h (isq_neq h0')
          · exact h
        have e2 : ((x.c0 + (root x.norm)) * (finv 2)) = x.c0 := z_sum' _ _ _ hs z1
        have hm : isq (-x.c0) = true := isq_neg (by rw [← e2]; exact h0')
        have h1 : isq ((x.c0 + (-(root x.norm))) * (finv 2)) = true := by rw [z1]; exact isq_zero
        have hi : root ((x.c0 + (-(root x.norm))) * (finv 2)) = 0 := by rw [z1]; exact root_zero
        have hz : (⟨(root ((x.c0 + (-(root x.norm))) * (finv 2))), (root (-x.c0))⟩ : F2) * ⟨(root ((x.c0 + (-(root x.norm))) * (finv 2))), (root (-x.c0))⟩ = x := F2.ext' (flat0 _ _ _ hi (root_sq hm)) (flat1 _ _ _ hi c1)
        exact sq_fin hz (sqE R x w hq rfl rfl rfl hm h0' rfl h1 rfl hi hz) (sqE R x w hq rfl rfl rfl hm h0' rfl h1 rfl hi hz)
      · obtain ⟨k0, k1, k2, k3, k4, k5⟩ := F2.cross c1 hn e0 e1
        have h1 := k3 h0'
        have i1 : root ((x.c0 + (-(root x.norm))) * (finv 2)) ≠ 0 := root_ne h1 k1
        have hz := F2.cross_root hh hs' h4' (root_sq h1) (finv_mul i1)
        exact sq_fin hz (sqD R x w hq rfl rfl rfl rfl h0' rfl h1 rfl i1 rfl rfl hz) (sqD R x w hq rfl rfl rfl rfl h0' rfl h1 rfl i1 rfl rfl hz)
  · have hq' : isq x.norm = false := by simpa using hq
    obtain ⟨e1, e2⟩ := F2.is2_no (a := x) (fun r hr => hq (F2.norm_sq hr))
    rw [e1, e2]
    exact sq0 R x w hq' rfl
end Go.Proofs.YthehnlpgmkjefaaDoor.fpn
