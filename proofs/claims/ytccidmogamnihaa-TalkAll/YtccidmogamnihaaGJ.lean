/- KC KD KE. -/
import Derived.Test.YtccidmogamnihaaGI
import Derived.Deep.LoopGhost
/- Talks: slices put together; a talk begins, and tells its state. -/
namespace Go.Proofs.Ytccidmogamnihaa.fpn
open Go.RowKit Pl
set_option linter.unusedVariables false
set_option linter.unusedSimpArgs false
set_option maxRecDepth 4000

set_option maxHeartbeats 4000000 in
theorem concat2 (k b m d : Nat) (q : Option Addr) (s g : Nat → Int) (w : World) (hk : Box w k [.slice (some ⟨b, 0, none⟩) 32 32, .slice q m d]) (hbx : Box w b (BC s 32)) (hq : AtK .u8 w q m g) (hmd : m ≤ d) (hm : m ≤ 400) : Calls Try.prog 19 #[.slice (some ⟨k, 0, none⟩) 2 2] w fun e w' => ∃ v, e = .returned v ∧ OwnY w' w.heap.size v (cat s 32 g) (32 + m) ∧ Below w.heap.size w w' := by
  have hp0 := Heap.start w
  go_enter Try.func19, Try.ntmps19
  refine wp_seq_k (fun K1 k1 => ?_)
  refine gs [.det (.slice none 0 0)] [0] [0] (fun L => [.slice (some ⟨k, 0, none⟩) 2 2, undef, .slice none 0 0] ++ U 33) (fun L => []) hp0 ⟨
    oA,
    trivial⟩ (fun L0 w1 hp1 => ?_)
  refine k1 _ _ ?_
  refine wp_seq_k (fun K2 k2 => ?_)
  refine gs [.det (.int .i64 0)] [0] [0] (fun L => [.slice (some ⟨k, 0, none⟩) 2 2, undef, .slice none 0 0, .int .i64 0] ++ U 32) (fun L => []) hp1 ⟨
    oA,
    trivial⟩ (fun L1 w2 hp2 => ?_)
  refine k2 _ _ ?_
  refine wp_seq_k (fun K3 k3 => ?_)
  refine wp_seq_k (fun K4 k4 => ?_)
  refine gs [.det (.slice (some ⟨k, 0, none⟩) 2 2), .det (.int .i64 2), .det (.int .i64 0)] [0, 1, 2] [0, 1, 0] (fun L => [.slice (some ⟨k, 0, none⟩) 2 2, undef, .slice none 0 0, .int .i64 0] ++ (U 5 ++ ([.slice (some ⟨k, 0, none⟩) 2 2, .int .i64 2, .int .i64 0] ++ U 24))) (fun L => []) hp2 ⟨
    oM, fun h => ⟨ob_len (p := (some ⟨k, 0, none⟩)) (n := 2) (c := 2) (fun _ => rfl) h rfl (fun _ => by kernel_rfl) Try.underlying68⟩, oM,
    trivial⟩ (fun L2 w3 hp3 => ?_)
  refine k4 _ _ ?_
  refine wp_block_k (fun K5 k5 => ?_)
  refine wp_loop_rounds 9 ?_
  refine rounds_k (fun K6 k6 => ?_)
  refine wp_seq_k (fun K7 k7 => ?_)
  refine gs [.det (.bool true)] [0] [0] (fun L => [.slice (some ⟨k, 0, none⟩) 2 2, undef, .slice none 0 0, .int .i64 0] ++ (U 5 ++ ([.slice (some ⟨k, 0, none⟩) 2 2, .int .i64 2, .int .i64 0, .bool true] ++ U 23))) (fun L => []) hp3 ⟨
    oJ .i64 .i64 0 2,
    trivial⟩ (fun L3 w4 hp4 => ?_)
  refine k7 _ _ ?_
  refine wp_seq_k (fun K8 k8 => ?_)
  refine wp_cond_true (by kernel_rfl) ?_
  refine skips ?_
  refine k8 _ _ ?_
  refine wp_seq_k (fun K9 k9 => ?_)
  refine wp_block_k (fun K10 k10 => ?_)
  refine wp_seq_k (fun K11 k11 => ?_)
  refine gs [.det (pt k 0), .det (.slice (some ⟨b, 0, none⟩) 32 32), .det (.slice (some ⟨b, 0, none⟩) 32 32)] [0, 1, 2] [0, 1, 3] (fun L => [.slice (some ⟨k, 0, none⟩) 2 2, undef, .slice none 0 0, .int .i64 0, undef, .slice (some ⟨b, 0, none⟩) 32 32, undef, undef, undef, .slice (some ⟨k, 0, none⟩) 2 2, .int .i64 2, .int .i64 0, .bool true, pt k 0, .slice (some ⟨b, 0, none⟩) 32 32] ++ U 21) (fun L => []) hp4 ⟨
    oIS (b := k) (off := 0) (n := 2) (c := 2) (sz := 1) 0 Try.underlying68 sizeYS (by decide), oLC oneYS (fun L w hs => (hk.up hs.bel).cells 0 _ rfl),
    oA,
    trivial⟩ (fun L4 w5 hp5 => ?_)
  refine k11 _ _ ?_
  refine wp_seq_k (fun K12 k12 => ?_)
  refine gs [.det (.int .i64 0), .det (.slice (some ⟨b, 0, none⟩) 32 32), .det (.int .i64 32), .det (.int .i64 32), .det (.int .i64 32)] [0, 1, 2, 3, 4] [0, 0, 2, 7, 15] (fun L => [.slice (some ⟨k, 0, none⟩) 2 2, undef, .slice none 0 0, .int .i64 32, undef, .slice (some ⟨b, 0, none⟩) 32 32, undef, undef, undef, .slice (some ⟨k, 0, none⟩) 2 2, .int .i64 2, .int .i64 0, .bool true, pt k 0, .slice (some ⟨b, 0, none⟩) 32 32, .int .i64 0, .slice (some ⟨b, 0, none⟩) 32 32, .int .i64 32, .int .i64 32] ++ U 17) (fun L => []) hp5 ⟨
    oM, oM, fun h => ⟨ob_len (p := (some ⟨b, 0, none⟩)) (n := 32) (c := 32) (fun _ => rfl) h rfl (fun _ => by kernel_rfl) Try.underlying29⟩, oJ .i64 .i64 0 32,
    oA,
    trivial⟩ (fun L5 w6 hp6 => ?_)
  refine k12 _ _ ?_
  refine wp_seq_k (fun K13 k13 => ?_)
  refine gs [.det (.int .i64 32), .det (.bool false)] [0, 1] [0, 1] (fun L => [.slice (some ⟨k, 0, none⟩) 2 2, undef, .slice none 0 0, .int .i64 32, undef, .slice (some ⟨b, 0, none⟩) 32 32, undef, undef, undef, .slice (some ⟨k, 0, none⟩) 2 2, .int .i64 2, .int .i64 0, .bool true, pt k 0, .slice (some ⟨b, 0, none⟩) 32 32, .int .i64 0, .slice (some ⟨b, 0, none⟩) 32 32, .int .i64 32, .int .i64 32, .int .i64 32, .bool false] ++ U 15) (fun L => []) hp6 ⟨
    oM, oJ .i64 .i64 32 0,
    trivial⟩ (fun L6 w7 hp7 => ?_)
  refine k13 _ _ ?_
  refine wp_cond_false (by kernel_rfl) ?_
  refine skips ?_
  refine k10 _ _ _ ?_
  refine block_normal ?_
  refine k9 _ _ ?_
  refine gs [.det (.int .i64 1), .det (.int .i64 1)] [0, 1] [0, 1] (fun L => [.slice (some ⟨k, 0, none⟩) 2 2, undef, .slice none 0 0, .int .i64 32, undef, .slice (some ⟨b, 0, none⟩) 32 32, undef, undef, undef, .slice (some ⟨k, 0, none⟩) 2 2, .int .i64 2, .int .i64 1, .bool true, pt k 0, .slice (some ⟨b, 0, none⟩) 32 32, .int .i64 0, .slice (some ⟨b, 0, none⟩) 32 32, .int .i64 32, .int .i64 32, .int .i64 32, .bool false, undef, .int .i64 1] ++ U 13) (fun L => []) hp7 ⟨
    oJ .i64 .i64 0 1, oM,
    trivial⟩ (fun L7 w8 hp8 => ?_)
  refine k6 _ _ _ ?_
  refine then_normal ?_
  refine rounds_k (fun K14 k14 => ?_)
  refine wp_seq_k (fun K15 k15 => ?_)
  refine gs [.det (.bool true)] [0] [0] (fun L => [.slice (some ⟨k, 0, none⟩) 2 2, undef, .slice none 0 0, .int .i64 32, undef, .slice (some ⟨b, 0, none⟩) 32 32, undef, undef, undef, .slice (some ⟨k, 0, none⟩) 2 2, .int .i64 2, .int .i64 1, .bool true, pt k 0, .slice (some ⟨b, 0, none⟩) 32 32, .int .i64 0, .slice (some ⟨b, 0, none⟩) 32 32, .int .i64 32, .int .i64 32, .int .i64 32, .bool false, undef, .int .i64 1] ++ U 13) (fun L => []) hp8 ⟨
    oJ .i64 .i64 1 2,
    trivial⟩ (fun L8 w9 hp9 => ?_)
  refine k15 _ _ ?_
  refine wp_seq_k (fun K16 k16 => ?_)
  refine wp_cond_true (by kernel_rfl) ?_
  refine skips ?_
  refine k16 _ _ ?_
  refine wp_seq_k (fun K17 k17 => ?_)
  refine wp_block_k (fun K18 k18 => ?_)
  refine wp_seq_k (fun K19 k19 => ?_)
  refine gs [.det (pt k 1), .det (.slice q m d), .det (.slice q m d)] [0, 1, 2] [0, 1, 3] (fun L => [.slice (some ⟨k, 0, none⟩) 2 2, undef, .slice none 0 0, .int .i64 32, undef, .slice q m d, undef, undef, undef, .slice (some ⟨k, 0, none⟩) 2 2, .int .i64 2, .int .i64 1, .bool true, pt k 1, .slice q m d, .int .i64 0, .slice (some ⟨b, 0, none⟩) 32 32, .int .i64 32, .int .i64 32, .int .i64 32, .bool false, undef, .int .i64 1] ++ U 13) (fun L => []) hp9 ⟨
    oIS (b := k) (off := 0) (n := 2) (c := 2) (sz := 1) 1 Try.underlying68 sizeYS (by decide), oLC oneYS (fun L w hs => (hk.up hs.bel).cells 1 _ rfl),
    oA,
    trivial⟩ (fun L9 w10 hp10 => ?_)
  refine k19 _ _ ?_
  refine wp_seq_k (fun K20 k20 => ?_)
  refine gs [.det (.int .i64 32), .det (.slice q m d), .det (.int .i64 m), .det (.int .i64 ((32 + m : Nat) : Int)), .det (.int .i64 ((32 + m : Nat) : Int))] [0, 1, 2, 3, 4] [0, 0, 2, 7, 15] (fun L => [.slice (some ⟨k, 0, none⟩) 2 2, undef, .slice none 0 0, .int .i64 ((32 + m : Nat) : Int), undef, .slice q m d, undef, undef, undef, .slice (some ⟨k, 0, none⟩) 2 2, .int .i64 2, .int .i64 1, .bool true, pt k 1, .slice q m d, .int .i64 32, .slice q m d, .int .i64 m, .int .i64 ((32 + m : Nat) : Int), .int .i64 32, .bool false, undef, .int .i64 1] ++ U 13) (fun L => []) hp10 ⟨
    oM, oM, fun h => ⟨ob_len (p := q) (n := m) (c := d) (fun _ => rfl) h rfl (fun _ => by kernel_rfl) Try.underlying29⟩, oJ .i64 .i64 32 m (h := fun w => addII _ 32 m (32 + m) rfl (by omega) w),
    oA,
    trivial⟩ (fun L10 w11 hp11 => ?_)
  refine k20 _ _ ?_
  refine wp_seq_k (fun K21 k21 => ?_)
  refine gs [.det (.int .i64 ((32 + m : Nat) : Int)), .det (.bool false)] [0, 1] [0, 1] (fun L => [.slice (some ⟨k, 0, none⟩) 2 2, undef, .slice none 0 0, .int .i64 ((32 + m : Nat) : Int), undef, .slice q m d, undef, undef, undef, .slice (some ⟨k, 0, none⟩) 2 2, .int .i64 2, .int .i64 1, .bool true, pt k 1, .slice q m d, .int .i64 32, .slice q m d, .int .i64 m, .int .i64 ((32 + m : Nat) : Int), .int .i64 ((32 + m : Nat) : Int), .bool false, undef, .int .i64 1] ++ U 13) (fun L => []) hp11 ⟨
    oM, oJ .i64 .i64 ((32 + m : Nat) : Int) 0 (h := fun w => (lssI _ _ _ w).trans (by rw [decide_eq_false (by omega)])),
    trivial⟩ (fun L11 w12 hp12 => ?_)
  refine k21 _ _ ?_
  refine wp_cond_false (by kernel_rfl) ?_
  refine skips ?_
  refine k18 _ _ _ ?_
  refine block_normal ?_
  refine k17 _ _ ?_
  refine gs [.det (.int .i64 2), .det (.int .i64 2)] [0, 1] [0, 1] (fun L => [.slice (some ⟨k, 0, none⟩) 2 2, undef, .slice none 0 0, .int .i64 ((32 + m : Nat) : Int), undef, .slice q m d, undef, undef, undef, .slice (some ⟨k, 0, none⟩) 2 2, .int .i64 2, .int .i64 2, .bool true, pt k 1, .slice q m d, .int .i64 32, .slice q m d, .int .i64 m, .int .i64 ((32 + m : Nat) : Int), .int .i64 ((32 + m : Nat) : Int), .bool false, undef, .int .i64 2] ++ U 13) (fun L => []) hp12 ⟨
    oJ .i64 .i64 1 1, oM,
    trivial⟩ (fun L12 w13 hp13 => ?_)
  refine k14 _ _ _ ?_
  refine then_normal ?_
  refine rounds_k (fun K22 k22 => ?_)
  refine wp_seq_k (fun K23 k23 => ?_)
  refine gs [.det (.bool false)] [0] [0] (fun L => [.slice (some ⟨k, 0, none⟩) 2 2, undef, .slice none 0 0, .int .i64 ((32 + m : Nat) : Int), undef, .slice q m d, undef, undef, undef, .slice (some ⟨k, 0, none⟩) 2 2, .int .i64 2, .int .i64 2, .bool false, pt k 1, .slice q m d, .int .i64 32, .slice q m d, .int .i64 m, .int .i64 ((32 + m : Nat) : Int), .int .i64 ((32 + m : Nat) : Int), .bool false, undef, .int .i64 2] ++ U 13) (fun L => []) hp13 ⟨
    oJ .i64 .i64 2 2,
    trivial⟩ (fun L13 w14 hp14 => ?_)
  refine k23 _ _ ?_
  refine wp_seq_k (fun K24 k24 => ?_)
  refine wp_cond_false (by kernel_rfl) ?_
  refine wp_exit ?_
  refine then_exit ?_
  refine k22 _ _ _ ?_
  refine then_exit ?_
  refine k5 _ _ _ ?_
  refine exit_in ?_
  refine k3 _ _ ?_
  refine wp_seq_k (fun K25 k25 => ?_)
  refine wp_region_list ?_
  refine gsC 1 [.det (.int .i64 ((32 + m : Nat) : Int))] [0] [0] (fun L _ => [.slice (some ⟨k, 0, none⟩) 2 2, undef, .slice none 0 0, .int .i64 ((32 + m : Nat) : Int), undef, .slice q m d, undef, undef, undef, .slice (some ⟨k, 0, none⟩) 2 2, .int .i64 2, .int .i64 2, .bool false, pt k 1, .slice q m d, .int .i64 32, .slice q m d, .int .i64 m, .int .i64 ((32 + m : Nat) : Int), .int .i64 ((32 + m : Nat) : Int), .bool false, undef, .int .i64 2, .int .i64 ((32 + m : Nat) : Int)] ++ U 12) (fun L => []) hp14 ⟨
    oM,
    trivial⟩ (fun L14 _ w15 hp15 ha15 => ?_)
  refine oneL rfl rfl (wp_callG (vs := #[.slice none 0 0, .int .i64 ((32 + m : Nat) : Int)]) (R := fun v x => OwnY x w15.heap.size v s 0 ∧ Below w15.heap.size w15 x) (Calls.mono (growNil (32 + m) _ (by omega) (by omega)) (fun e x ⟨v, he, h1, h2⟩ => ⟨v, he, h1.congr (fun j hj => absurd hj (Nat.not_lt_zero j)), h2⟩)) (fun vx1 x1 ⟨hox1, hbx1⟩ => ?_))
  have hcx1 := hp15.bel.trans (hbx1.mono hp15.bel.size)
  have hrx1 := OwnY.base hox1 hp15.bel.size
  have hsx1 := Heap.start x1
  have hk_x1 := hk.up hcx1
  have hbx_x1 := hbx.up hcx1
  have hq_x1 := hq.below hcx1
  refine gsC 1 [.det (vx1)] [0] [0] (fun L _ => [.slice (some ⟨k, 0, none⟩) 2 2, undef, .slice none 0 0, .int .i64 ((32 + m : Nat) : Int), undef, .slice q m d, vx1, undef, undef, .slice (some ⟨k, 0, none⟩) 2 2, .int .i64 2, .int .i64 2, .bool false, pt k 1, .slice q m d, .int .i64 32, .slice q m d, .int .i64 m, .int .i64 ((32 + m : Nat) : Int), .int .i64 ((32 + m : Nat) : Int), .bool false, undef, .int .i64 2, .int .i64 ((32 + m : Nat) : Int), vx1] ++ U 11) (fun L => []) hsx1 ⟨
    oA,
    trivial⟩ (fun L15 _ w16 hp16 ha16 => ?_)
  refine wpList_nil ?_
  refine k25 _ _ ?_
  refine wp_seq_k (fun K26 k26 => ?_)
  refine wp_seq_k (fun K27 k27 => ?_)
  refine gs [.det (.slice (some ⟨k, 0, none⟩) 2 2), .det (.int .i64 2), .det (.int .i64 0)] [0, 1, 2] [0, 1, 0] (fun L => [.slice (some ⟨k, 0, none⟩) 2 2, undef, .slice none 0 0, .int .i64 ((32 + m : Nat) : Int), undef, .slice q m d, vx1, undef, undef, .slice (some ⟨k, 0, none⟩) 2 2, .int .i64 2, .int .i64 2, .bool false, pt k 1, .slice q m d, .int .i64 32, .slice q m d, .int .i64 m, .int .i64 ((32 + m : Nat) : Int), .int .i64 ((32 + m : Nat) : Int), .bool false, undef, .int .i64 2, .int .i64 ((32 + m : Nat) : Int), vx1, .slice (some ⟨k, 0, none⟩) 2 2, .int .i64 2, .int .i64 0] ++ U 8) (fun L => []) hp16 ⟨
    oM, fun h => ⟨ob_len (p := (some ⟨k, 0, none⟩)) (n := 2) (c := 2) (fun _ => rfl) h rfl (fun _ => by kernel_rfl) Try.underlying68⟩, oM,
    trivial⟩ (fun L16 w17 hp17 => ?_)
  refine k27 _ _ ?_
  refine wp_block_k (fun K28 k28 => ?_)
  refine wp_loop_rounds 9 ?_
  refine rounds_k (fun K29 k29 => ?_)
  refine wp_seq_k (fun K30 k30 => ?_)
  refine gs [.det (.bool true)] [0] [0] (fun L => [.slice (some ⟨k, 0, none⟩) 2 2, undef, .slice none 0 0, .int .i64 ((32 + m : Nat) : Int), undef, .slice q m d, vx1, undef, undef, .slice (some ⟨k, 0, none⟩) 2 2, .int .i64 2, .int .i64 2, .bool false, pt k 1, .slice q m d, .int .i64 32, .slice q m d, .int .i64 m, .int .i64 ((32 + m : Nat) : Int), .int .i64 ((32 + m : Nat) : Int), .bool false, undef, .int .i64 2, .int .i64 ((32 + m : Nat) : Int), vx1, .slice (some ⟨k, 0, none⟩) 2 2, .int .i64 2, .int .i64 0, .bool true] ++ U 7) (fun L => []) hp17 ⟨
    oJ .i64 .i64 0 2,
    trivial⟩ (fun L17 w18 hp18 => ?_)
  refine k30 _ _ ?_
  refine wp_seq_k (fun K31 k31 => ?_)
  refine wp_cond_true (by kernel_rfl) ?_
  refine skips ?_
  refine k31 _ _ ?_
  refine wp_seq_k (fun K32 k32 => ?_)
  refine wp_block_k (fun K33 k33 => ?_)
  refine wp_seq_k (fun K34 k34 => ?_)
  refine gs [.det (pt k 0), .det (.slice (some ⟨b, 0, none⟩) 32 32), .det (.slice (some ⟨b, 0, none⟩) 32 32)] [0, 1, 2] [0, 1, 3] (fun L => [.slice (some ⟨k, 0, none⟩) 2 2, undef, .slice none 0 0, .int .i64 ((32 + m : Nat) : Int), undef, .slice q m d, vx1, undef, .slice (some ⟨b, 0, none⟩) 32 32, .slice (some ⟨k, 0, none⟩) 2 2, .int .i64 2, .int .i64 2, .bool false, pt k 1, .slice q m d, .int .i64 32, .slice q m d, .int .i64 m, .int .i64 ((32 + m : Nat) : Int), .int .i64 ((32 + m : Nat) : Int), .bool false, undef, .int .i64 2, .int .i64 ((32 + m : Nat) : Int), vx1, .slice (some ⟨k, 0, none⟩) 2 2, .int .i64 2, .int .i64 0, .bool true, pt k 0, .slice (some ⟨b, 0, none⟩) 32 32] ++ U 5) (fun L => []) hp18 ⟨
    oIS (b := k) (off := 0) (n := 2) (c := 2) (sz := 1) 0 Try.underlying68 sizeYS (by decide), oLC oneYS (fun L w hs => (hk_x1.up hs.bel).cells 0 _ rfl),
    oA,
    trivial⟩ (fun L18 w19 hp19 => ?_)
  refine k34 _ _ ?_
  refine wp_region_list ?_
  refine gsC 2 [.det (vx1), .det (.slice (some ⟨b, 0, none⟩) 32 32)] [0, 1] [0, 1] (fun L _ => [.slice (some ⟨k, 0, none⟩) 2 2, undef, .slice none 0 0, .int .i64 ((32 + m : Nat) : Int), undef, .slice q m d, vx1, undef, .slice (some ⟨b, 0, none⟩) 32 32, .slice (some ⟨k, 0, none⟩) 2 2, .int .i64 2, .int .i64 2, .bool false, pt k 1, .slice q m d, .int .i64 32, .slice q m d, .int .i64 m, .int .i64 ((32 + m : Nat) : Int), .int .i64 ((32 + m : Nat) : Int), .bool false, undef, .int .i64 2, .int .i64 ((32 + m : Nat) : Int), vx1, .slice (some ⟨k, 0, none⟩) 2 2, .int .i64 2, .int .i64 0, .bool true, pt k 0, .slice (some ⟨b, 0, none⟩) 32 32, vx1, .slice (some ⟨b, 0, none⟩) 32 32, undef, undef, undef]) (fun L => []) hp19 ⟨
    oM, oM,
    trivial⟩ (fun L19 _ w20 hp20 ha20 => ?_)
  refine oneL rfl rfl (wp_appendA (.tmp 31) (.tmp 32) rfl (v := vx1) (u := .slice (some ⟨b, 0, none⟩) 32 32) (by kernel_rfl) (hrx1.below hp20.bel) (by kernel_rfl) (boxA (hbx_x1.up hp20.bel) 32 (Nat.le_refl _)) (by omega) (hcx1.trans (hp20.bel.mono hcx1.size)).size (fun vx2 x2 hox2 hbx2 => ?_))
  have hcx2 := (hcx1.trans (hp20.bel.mono hcx1.size)).trans hbx2
  have hrx2 := OwnY.to hox2 (Nat.zero_add 32) (fun j hj => cat_at1 s s (Nat.zero_le j))
  have hsx2 := Heap.start x2
  have hk_x2 := hk.up hcx2
  have hbx_x2 := hbx.up hcx2
  have hq_x2 := hq.below hcx2
  refine gsC 1 [.det (vx2)] [0] [0] (fun L _ => [.slice (some ⟨k, 0, none⟩) 2 2, undef, .slice none 0 0, .int .i64 ((32 + m : Nat) : Int), undef, .slice q m d, vx2, undef, .slice (some ⟨b, 0, none⟩) 32 32, .slice (some ⟨k, 0, none⟩) 2 2, .int .i64 2, .int .i64 2, .bool false, pt k 1, .slice q m d, .int .i64 32, .slice q m d, .int .i64 m, .int .i64 ((32 + m : Nat) : Int), .int .i64 ((32 + m : Nat) : Int), .bool false, undef, .int .i64 2, .int .i64 ((32 + m : Nat) : Int), vx1, .slice (some ⟨k, 0, none⟩) 2 2, .int .i64 2, .int .i64 0, .bool true, pt k 0, .slice (some ⟨b, 0, none⟩) 32 32, vx1, .slice (some ⟨b, 0, none⟩) 32 32, vx2, undef, undef]) (fun L => []) hsx2 ⟨
    oA,
    trivial⟩ (fun L20 _ w21 hp21 ha21 => ?_)
  refine wpList_nil ?_
  refine k33 _ _ _ ?_
  refine block_normal ?_
  refine k32 _ _ ?_
  refine gs [.det (.int .i64 1), .det (.int .i64 1)] [0, 1] [0, 1] (fun L => [.slice (some ⟨k, 0, none⟩) 2 2, undef, .slice none 0 0, .int .i64 ((32 + m : Nat) : Int), undef, .slice q m d, vx2, undef, .slice (some ⟨b, 0, none⟩) 32 32, .slice (some ⟨k, 0, none⟩) 2 2, .int .i64 2, .int .i64 2, .bool false, pt k 1, .slice q m d, .int .i64 32, .slice q m d, .int .i64 m, .int .i64 ((32 + m : Nat) : Int), .int .i64 ((32 + m : Nat) : Int), .bool false, undef, .int .i64 2, .int .i64 ((32 + m : Nat) : Int), vx1, .slice (some ⟨k, 0, none⟩) 2 2, .int .i64 2, .int .i64 1, .bool true, pt k 0, .slice (some ⟨b, 0, none⟩) 32 32, vx1, .slice (some ⟨b, 0, none⟩) 32 32, vx2, .int .i64 1, undef]) (fun L => []) hp21 ⟨
    oJ .i64 .i64 0 1, oM,
    trivial⟩ (fun L21 w22 hp22 => ?_)
  refine k29 _ _ _ ?_
  refine then_normal ?_
  refine rounds_k (fun K35 k35 => ?_)
  refine wp_seq_k (fun K36 k36 => ?_)
  refine gs [.det (.bool true)] [0] [0] (fun L => [.slice (some ⟨k, 0, none⟩) 2 2, undef, .slice none 0 0, .int .i64 ((32 + m : Nat) : Int), undef, .slice q m d, vx2, undef, .slice (some ⟨b, 0, none⟩) 32 32, .slice (some ⟨k, 0, none⟩) 2 2, .int .i64 2, .int .i64 2, .bool false, pt k 1, .slice q m d, .int .i64 32, .slice q m d, .int .i64 m, .int .i64 ((32 + m : Nat) : Int), .int .i64 ((32 + m : Nat) : Int), .bool false, undef, .int .i64 2, .int .i64 ((32 + m : Nat) : Int), vx1, .slice (some ⟨k, 0, none⟩) 2 2, .int .i64 2, .int .i64 1, .bool true, pt k 0, .slice (some ⟨b, 0, none⟩) 32 32, vx1, .slice (some ⟨b, 0, none⟩) 32 32, vx2, .int .i64 1, undef]) (fun L => []) hp22 ⟨
    oJ .i64 .i64 1 2,
    trivial⟩ (fun L22 w23 hp23 => ?_)
  refine k36 _ _ ?_
  refine wp_seq_k (fun K37 k37 => ?_)
  refine wp_cond_true (by kernel_rfl) ?_
  refine skips ?_
  refine k37 _ _ ?_
  refine wp_seq_k (fun K38 k38 => ?_)
  refine wp_block_k (fun K39 k39 => ?_)
  refine wp_seq_k (fun K40 k40 => ?_)
  refine gs [.det (pt k 1), .det (.slice q m d), .det (.slice q m d)] [0, 1, 2] [0, 1, 3] (fun L => [.slice (some ⟨k, 0, none⟩) 2 2, undef, .slice none 0 0, .int .i64 ((32 + m : Nat) : Int), undef, .slice q m d, vx2, undef, .slice q m d, .slice (some ⟨k, 0, none⟩) 2 2, .int .i64 2, .int .i64 2, .bool false, pt k 1, .slice q m d, .int .i64 32, .slice q m d, .int .i64 m, .int .i64 ((32 + m : Nat) : Int), .int .i64 ((32 + m : Nat) : Int), .bool false, undef, .int .i64 2, .int .i64 ((32 + m : Nat) : Int), vx1, .slice (some ⟨k, 0, none⟩) 2 2, .int .i64 2, .int .i64 1, .bool true, pt k 1, .slice q m d, vx1, .slice (some ⟨b, 0, none⟩) 32 32, vx2, .int .i64 1, undef]) (fun L => []) hp23 ⟨
    oIS (b := k) (off := 0) (n := 2) (c := 2) (sz := 1) 1 Try.underlying68 sizeYS (by decide), oLC oneYS (fun L w hs => (hk_x2.up hs.bel).cells 1 _ rfl),
    oA,
    trivial⟩ (fun L23 w24 hp24 => ?_)
  refine k40 _ _ ?_
  refine wp_region_list ?_
  refine gsC 2 [.det (vx2), .det (.slice q m d)] [0, 1] [0, 1] (fun L _ => [.slice (some ⟨k, 0, none⟩) 2 2, undef, .slice none 0 0, .int .i64 ((32 + m : Nat) : Int), undef, .slice q m d, vx2, undef, .slice q m d, .slice (some ⟨k, 0, none⟩) 2 2, .int .i64 2, .int .i64 2, .bool false, pt k 1, .slice q m d, .int .i64 32, .slice q m d, .int .i64 m, .int .i64 ((32 + m : Nat) : Int), .int .i64 ((32 + m : Nat) : Int), .bool false, undef, .int .i64 2, .int .i64 ((32 + m : Nat) : Int), vx1, .slice (some ⟨k, 0, none⟩) 2 2, .int .i64 2, .int .i64 1, .bool true, pt k 1, .slice q m d, vx2, .slice q m d, vx2, .int .i64 1, undef]) (fun L => []) hp24 ⟨
    oM, oM,
    trivial⟩ (fun L24 _ w25 hp25 ha25 => ?_)
  refine oneL rfl rfl (wp_appendA (.tmp 31) (.tmp 32) rfl (v := vx2) (u := .slice q m d) (by kernel_rfl) (hrx2.below hp25.bel) (by kernel_rfl) ⟨q, d, rfl, hmd, (hq_x2.below hp25.bel)⟩ (by omega) (hcx2.trans (hp25.bel.mono hcx2.size)).size (fun vx3 x3 hox3 hbx3 => ?_))
  have hcx3 := (hcx2.trans (hp25.bel.mono hcx2.size)).trans hbx3
  have hsx3 := Heap.start x3
  have hk_x3 := hk.up hcx3
  have hbx_x3 := hbx.up hcx3
  have hq_x3 := hq.below hcx3
  refine gsC 1 [.det (vx3)] [0] [0] (fun L _ => [.slice (some ⟨k, 0, none⟩) 2 2, undef, .slice none 0 0, .int .i64 ((32 + m : Nat) : Int), undef, .slice q m d, vx3, undef, .slice q m d, .slice (some ⟨k, 0, none⟩) 2 2, .int .i64 2, .int .i64 2, .bool false, pt k 1, .slice q m d, .int .i64 32, .slice q m d, .int .i64 m, .int .i64 ((32 + m : Nat) : Int), .int .i64 ((32 + m : Nat) : Int), .bool false, undef, .int .i64 2, .int .i64 ((32 + m : Nat) : Int), vx1, .slice (some ⟨k, 0, none⟩) 2 2, .int .i64 2, .int .i64 1, .bool true, pt k 1, .slice q m d, vx2, .slice q m d, vx3, .int .i64 1, undef]) (fun L => []) hsx3 ⟨
    oA,
    trivial⟩ (fun L25 _ w26 hp26 ha26 => ?_)
  refine wpList_nil ?_
  refine k39 _ _ _ ?_
  refine block_normal ?_
  refine k38 _ _ ?_
  refine gs [.det (.int .i64 2), .det (.int .i64 2)] [0, 1] [0, 1] (fun L => [.slice (some ⟨k, 0, none⟩) 2 2, undef, .slice none 0 0, .int .i64 ((32 + m : Nat) : Int), undef, .slice q m d, vx3, undef, .slice q m d, .slice (some ⟨k, 0, none⟩) 2 2, .int .i64 2, .int .i64 2, .bool false, pt k 1, .slice q m d, .int .i64 32, .slice q m d, .int .i64 m, .int .i64 ((32 + m : Nat) : Int), .int .i64 ((32 + m : Nat) : Int), .bool false, undef, .int .i64 2, .int .i64 ((32 + m : Nat) : Int), vx1, .slice (some ⟨k, 0, none⟩) 2 2, .int .i64 2, .int .i64 2, .bool true, pt k 1, .slice q m d, vx2, .slice q m d, vx3, .int .i64 2, undef]) (fun L => []) hp26 ⟨
    oJ .i64 .i64 1 1, oM,
    trivial⟩ (fun L26 w27 hp27 => ?_)
  refine k35 _ _ _ ?_
  refine then_normal ?_
  refine rounds_k (fun K41 k41 => ?_)
  refine wp_seq_k (fun K42 k42 => ?_)
  refine gs [.det (.bool false)] [0] [0] (fun L => [.slice (some ⟨k, 0, none⟩) 2 2, undef, .slice none 0 0, .int .i64 ((32 + m : Nat) : Int), undef, .slice q m d, vx3, undef, .slice q m d, .slice (some ⟨k, 0, none⟩) 2 2, .int .i64 2, .int .i64 2, .bool false, pt k 1, .slice q m d, .int .i64 32, .slice q m d, .int .i64 m, .int .i64 ((32 + m : Nat) : Int), .int .i64 ((32 + m : Nat) : Int), .bool false, undef, .int .i64 2, .int .i64 ((32 + m : Nat) : Int), vx1, .slice (some ⟨k, 0, none⟩) 2 2, .int .i64 2, .int .i64 2, .bool false, pt k 1, .slice q m d, vx2, .slice q m d, vx3, .int .i64 2, undef]) (fun L => []) hp27 ⟨
    oJ .i64 .i64 2 2,
    trivial⟩ (fun L27 w28 hp28 => ?_)
  refine k42 _ _ ?_
  refine wp_seq_k (fun K43 k43 => ?_)
  refine wp_cond_false (by kernel_rfl) ?_
  refine wp_exit ?_
  refine then_exit ?_
  refine k41 _ _ _ ?_
  refine then_exit ?_
  refine k28 _ _ _ ?_
  refine exit_in ?_
  refine k26 _ _ ?_
  refine wp_seq_k (fun K44 k44 => ?_)
  refine gs [.det (vx3), .det (vx3)] [0, 1] [0, 1] (fun L => [.slice (some ⟨k, 0, none⟩) 2 2, undef, vx3, .int .i64 ((32 + m : Nat) : Int), undef, .slice q m d, vx3, undef, .slice q m d, .slice (some ⟨k, 0, none⟩) 2 2, .int .i64 2, .int .i64 2, .bool false, pt k 1, .slice q m d, .int .i64 32, .slice q m d, .int .i64 m, .int .i64 ((32 + m : Nat) : Int), .int .i64 ((32 + m : Nat) : Int), .bool false, undef, .int .i64 2, .int .i64 ((32 + m : Nat) : Int), vx1, .slice (some ⟨k, 0, none⟩) 2 2, .int .i64 2, .int .i64 2, .bool false, pt k 1, .slice q m d, vx2, .slice q m d, vx3, .int .i64 2, vx3]) (fun L => []) hp28 ⟨
    oM, oA,
    trivial⟩ (fun L28 w29 hp29 => ?_)
  refine k44 _ _ ?_
  refine wp_ret ?_
  refine bodyPost_ret (v := vx3) ?_ rfl ?_
  · exact res_t rfl (by kernel_rfl) _
  · exact ⟨_, rfl, (hox3.below hp29.bel), (hcx3.trans (hp29.bel.mono hcx3.size))⟩
theorem catP {b m d : Nat} {q : Option Addr} {s g : Nat → Int} {v : Value} {w : World} (h : isS2 (.slice (some ⟨b, 0, none⟩) 32 32) (.slice q m d) v w) (hbx : Box w b (BC s 32)) (hq : AtK .u8 w q m g) (hmd : m ≤ d) (hm : m ≤ 400) : Calls Try.prog 19 #[v] w fun e w' => ∃ v, e = .returned v ∧ isA (cat s 32 g) (32 + m) v w' ∧ Below w.heap.size w w' := by
  obtain ⟨k, rfl, hk⟩ := h
  exact Calls.mono (concat2 k b m d q s g w hk hbx hq hmd hm) fun e x ⟨v, he, ho, hb⟩ => ⟨v, he, ho.a, hb⟩
set_option maxHeartbeats 4000000 in
theorem behindP (b m d : Nat) (q : Option Addr) (s g : Nat → Int) (w : World) (hbx : Box w b (BC s 32)) (hs0 : By s) (hq : AtK .u8 w q m g) (hmd : m ≤ d) (hg : ∀ j, j < m → 0 ≤ g j ∧ g j < 256) (hm : m ≤ 360) : Calls Try.prog 17 #[.pointer (some ⟨b, 0, none⟩), .slice q m d] w (Ret (VB (dig (cat s 32 g) (32 + m)) 32) w) := by
  have hp0 := Heap.start w
  go_enter Try.func17, Try.ntmps17
  refine wp_seq_k (fun K1 k1 => ?_)
  refine gs [.alloc (BC (fun _ => 0) 32)] [0] [0] (fun L => [pt b 0, .slice q m d, undef, undef, L.p 0] ++ U 8) (fun L => [(L.b 0, BC (fun _ => 0) 32)]) hp0 ⟨
    oZ rB32,
    trivial⟩ (fun L0 w1 hp1 => ?_)
  refine k1 _ _ ?_
  refine wp_seq_k (fun K2 k2 => ?_)
  refine gs [.det (pt b 0), .det (pt b 0), .det (pt b 0), .det (.slice (some ⟨b, 0, none⟩) 32 32), .det (.slice q m d), .any (isS2 (.slice (some ⟨b, 0, none⟩) 32 32) (.slice q m d)), .any (isA (cat s 32 g) (32 + m)), .det (VB (dig (cat s 32 g) (32 + m)) 32), .store (.base 0) 0 (BC (dig (cat s 32 g) (32 + m)) 32) (BC (dig (cat s 32 g) (32 + m)) 32)] [0, 1, 2, 3, 4, 5, 6, 7, 8] [0, 1, 3, 7, 0, 31, 63, 127, 255] (fun L => [pt b 0, .slice q m d, undef, undef, L0.p 0, pt b 0, pt b 0, pt b 0, .slice (some ⟨b, 0, none⟩) 32 32, .slice q m d, L.v 5, L.v 6, VB (dig (cat s 32 g) (32 + m)) 32]) (fun L => [(L0.b 0, BC (dig (cat s 32 g) (32 + m)) 32)]) hp1 ⟨
    oM, oNC, oF fTk0, oSA (sz := 1) Try.underlying38 sizeY (by decide), oM, oSS2 ⟨_, _, _, rfl⟩ ⟨_, _, _, rfl⟩, oY (fun L => #[L.v 5]) (fun _ _ _ h hb => h.stay hb) (fun L w hs => catP (hs.any 5 _ rfl rfl) (hbx.up hs.bel) (hq.below hs.bel) hmd (by omega)),
    oCS (fun L => #[L.v 6]) (fun L w hs => sumA (hs.any 6 _ rfl rfl) (by omega) (cat_rg hs0 hg)), oT rB32,
    trivial⟩ (fun L1 w2 hp2 => ?_)
  refine k2 _ _ ?_
  refine wp_ret ?_
  refine bodyPost_ret (v := VB (dig (cat s 32 g) (32 + m)) 32) ?_ rfl ?_
  · exact rc rB32 rfl (by kernel_rfl) (hp2.bound 0 rfl).2
  · exact ⟨rfl, hp2.bel⟩
theorem behindA {b m : Nat} {s g : Nat → Int} {v : Value} {w : World} (h : isA g m v w) (hbx : Box w b (BC s 32)) (hs0 : By s) (hg : ∀ j, j < m → 0 ≤ g j ∧ g j < 256) (hm : m ≤ 360) : Calls Try.prog 17 #[.pointer (some ⟨b, 0, none⟩), v] w (Ret (VB (dig (cat s 32 g) (32 + m)) 32) w) := by
  obtain ⟨q, d, rfl, hmd, hq⟩ := h
  exact behindP b m d q s g w hbx hs0 hq hmd hg hm
set_option maxHeartbeats 4000000 in
theorem stateP {b : Nat} {s : Nat → Int} {w : World} (hbx : Box w b (BC s 32)) : Calls Try.prog 14 #[.pointer (some ⟨b, 0, none⟩)] w (Ret (VB s 32) w) := by
  have hp0 := Heap.start w
  go_enter Try.func14, Try.ntmps14
  refine wp_seq_k (fun K1 k1 => ?_)
  refine gs [.alloc (BC (fun _ => 0) 32)] [0] [0] (fun L => [pt b 0, undef, L.p 0] ++ U 7) (fun L => [(L.b 0, BC (fun _ => 0) 32)]) hp0 ⟨
    oZ rB32,
    trivial⟩ (fun L0 w1 hp1 => ?_)
  refine k1 _ _ ?_
  refine wp_seq_k (fun K2 k2 => ?_)
  refine wp_seq_k (fun K3 k3 => ?_)
  refine gs [.det (pt b 0), .det (.bool false)] [0, 1] [0, 1] (fun L => [pt b 0, undef, L0.p 0, pt b 0, .bool false] ++ U 5) (fun L => [(L0.b 0, BC (fun _ => 0) 32)]) hp1 ⟨
    oM, oW (u := pt b 0) (v := .pointer none) (r := .bool false) (fun w => guardPt _ _ _ _ _ w) (fun w => eqlPt _ w),
    trivial⟩ (fun L1 w2 hp2 => ?_)
  refine k3 _ _ ?_
  refine wp_cond_false (by kernel_rfl) ?_
  refine skips ?_
  refine k2 _ _ ?_
  refine wp_seq_k (fun K4 k4 => ?_)
  refine gs [.det (pt b 0), .det (pt b 0), .det (pt b 0), .det (VB s 32), .store (.base 0) 0 (BC s 32) (BC s 32)] [0, 1, 2, 3, 4] [0, 1, 3, 7, 15] (fun L => [pt b 0, undef, L0.p 0, pt b 0, .bool false, undef, pt b 0, pt b 0, pt b 0, VB s 32]) (fun L => [(L0.b 0, BC s 32)]) hp2 ⟨
    oM, oNC, oF fTk0, oG rB32 (fun _ w hs => (hbx.up hs.bel).cells), oT rB32,
    trivial⟩ (fun L2 w3 hp3 => ?_)
  refine k4 _ _ ?_
  refine wp_ret ?_
  refine bodyPost_ret (v := VB s 32) ?_ rfl ?_
  · exact rc rB32 rfl (by kernel_rfl) (hp3.bound 0 rfl).2
  · exact ⟨rfl, hp3.bel⟩
theorem stateN (w : World) : Calls Try.prog 14 #[.pointer none] w (Ret (VB (fun _ => 0) 32) w) := by
  have hp0 := Heap.start w
  go_enter Try.func14, Try.ntmps14
  refine wp_seq_k (fun K1 k1 => ?_)
  refine gs [.alloc (BC (fun _ => 0) 32)] [0] [0] (fun L => [.pointer none, undef, L.p 0] ++ U 7) (fun L => [(L.b 0, BC (fun _ => 0) 32)]) hp0 ⟨
    oZ rB32,
    trivial⟩ (fun L0 w1 hp1 => ?_)
  refine k1 _ _ ?_
  refine wp_seq_k (fun K2 k2 => ?_)
  refine wp_seq_k (fun K3 k3 => ?_)
  refine gs [.det (.pointer none), .det (.bool true)] [0, 1] [0, 1] (fun L => [.pointer none, undef, L0.p 0, .pointer none, .bool true] ++ U 5) (fun L => [(L0.b 0, BC (fun _ => 0) 32)]) hp1 ⟨
    oM, oW (u := .pointer none) (v := .pointer none) (r := .bool true) (fun w => guardPt _ _ _ _ _ w) (fun w => eqlPn w),
    trivial⟩ (fun L1 w2 hp2 => ?_)
  refine k3 _ _ ?_
  refine wp_cond_true (by kernel_rfl) ?_
  refine wp_seq_k (fun K4 k4 => ?_)
  refine gs [.det (VB (fun _ => 0) 32), .store (.base 0) 0 (BC (fun _ => 0) 32) (BC (fun _ => 0) 32)] [0, 1] [0, 1] (fun L => [.pointer none, undef, L0.p 0, .pointer none, .bool true, VB (fun _ => 0) 32] ++ U 4) (fun L => [(L0.b 0, BC (fun _ => 0) 32)]) hp2 ⟨
    oD buildB32n, oT rB32,
    trivial⟩ (fun L2 w3 hp3 => ?_)
  refine k4 _ _ ?_
  refine wp_ret ?_
  refine bodyPost_ret (v := VB (fun _ => 0) 32) ?_ rfl ?_
  · exact rc rB32 rfl (by kernel_rfl) (hp3.bound 0 rfl).2
  · exact ⟨rfl, hp3.bel⟩
set_option maxHeartbeats 4000000 in
theorem tkNew (st : ByteArray) (w : World) (hn : st.size ≤ 100) : Calls Try.prog 7 #[.string st] w fun e w' => ∃ k, e = .returned (.pointer (some ⟨k, 0, none⟩)) ∧ w.heap.size ≤ k ∧ Box w' k (BC (begS (sby st) st.size) 32) ∧ Below w.heap.size w w' := by
  have hp0 := Heap.start w
  go_enter Try.func7, Try.ntmps7
  refine wp_seq_k (fun K1 k1 => ?_)
  refine gs [.det (.pointer none)] [0] [0] (fun L => [.string st, undef, .pointer none] ++ U 6) (fun L => []) hp0 ⟨
    oA,
    trivial⟩ (fun L0 w1 hp1 => ?_)
  refine k1 _ _ ?_
  refine wp_seq_k (fun K2 k2 => ?_)
  refine wp_region_list ?_
  refine oneL rfl rfl (wp_buildY rfl (fun _ => 0) (by decide) (by decide) (by kernel_rfl) (fun x1 hox1 hbx1 => ?_))
  have hcx1 := hp1.bel.trans (hbx1.mono hp1.bel.size)
  have hrx1 := OwnY.base hox1 hp1.bel.size
  have hsx1 := Heap.start x1
  refine gsC 1 [.det (.string st)] [0] [0] (fun L _ => [.string st, undef, .pointer none, .slice (some ⟨w1.heap.size, 0, none⟩) 1 1, .string st] ++ U 4) (fun L => []) hsx1 ⟨
    oM,
    trivial⟩ (fun L1 _ w2 hp2 ha2 => ?_)
  refine oneL rfl rfl (wp_appendS (.tmp 3) (.tmp 4) rfl (s := st) (by kernel_rfl) (hrx1.below hp2.bel) (by kernel_rfl) (by omega) (hcx1.trans (hp2.bel.mono hcx1.size)).size (fun vx2 x2 hox2 hbx2 => ?_))
  have hcx2 := (hcx1.trans (hp2.bel.mono hcx1.size)).trans hbx2
  have hsx2 := Heap.start x2
  have hA := OwnY.a hox2
  refine gsC 4 [.det (VB (dig (cat (fun _ => 0) 1 (sby st)) (1 + st.size)) 32), .det (VB (dig (cat (fun _ => 0) 1 (sby st)) (1 + st.size)) 32), .alloc (BC (dig (cat (fun _ => 0) 1 (sby st)) (1 + st.size)) 32), .detB 2 (fun b => .pointer (some ⟨b, 0, none⟩))] [0, 1, 2, 3] [0, 1, 3, 7] (fun L _ => [.string st, undef, L.p 2, .slice (some ⟨w1.heap.size, 0, none⟩) 1 1, .string st, vx2, VB (dig (cat (fun _ => 0) 1 (sby st)) (1 + st.size)) 32, VB (dig (cat (fun _ => 0) 1 (sby st)) (1 + st.size)) 32, L.p 2]) (fun L => [(L.b 2, BC (dig (cat (fun _ => 0) 1 (sby st)) (1 + st.size)) 32)]) hsx2 ⟨
    oH (v := VB (dig (cat (fun _ => 0) 1 (sby st)) (1 + st.size)) 32) (vs := #[vx2]) (fun w hb _ => sumA (hA.stay hb) (by omega) (cat_rg By.zero (fun j _ => sby_rg st j))),
    oD (buildTk (dig (cat (fun _ => 0) 1 (sby st)) (1 + st.size))), oB, oAPt,
    trivial⟩ (fun L2 _ w3 hp3 ha3 => ?_)
  refine wpList_nil ?_
  refine k2 _ _ ?_
  refine wp_ret ?_
  refine bodyPost_ret (v := L2.p 2) ?_ rfl ?_
  · exact res_t rfl (by kernel_rfl) _
  · exact ⟨_, rfl, Nat.le_trans hcx2.size (hp3.bound 0 rfl).1, by unfold begS; exact (hp3.bound 0 rfl).2, (hcx2.trans (hp3.bel.mono hcx2.size))⟩
set_option maxHeartbeats 4000000 in
theorem trNew (st : ByteArray) (w : World) (hn : st.size ≤ 100) : Calls Try.prog 8 #[.string st] w fun e w' => ∃ k, e = .returned (.pointer (some ⟨k, 0, none⟩)) ∧ w.heap.size ≤ k ∧ Box w' k (BC (begS (sby st) st.size) 32) ∧ Below w.heap.size w w' := by
  have hp0 := Heap.start w
  go_enter Try.func8, Try.ntmps8
  refine wp_seq_k (fun K1 k1 => ?_)
  refine gs [.det (.pointer none)] [0] [0] (fun L => [.string st, undef, .pointer none] ++ U 6) (fun L => []) hp0 ⟨
    oA,
    trivial⟩ (fun L0 w1 hp1 => ?_)
  refine k1 _ _ ?_
  refine wp_seq_k (fun K2 k2 => ?_)
  refine wp_region_list ?_
  refine oneL rfl rfl (wp_buildY rfl (fun _ => 0) (by decide) (by decide) (by kernel_rfl) (fun x1 hox1 hbx1 => ?_))
  have hcx1 := hp1.bel.trans (hbx1.mono hp1.bel.size)
  have hrx1 := OwnY.base hox1 hp1.bel.size
  have hsx1 := Heap.start x1
  refine gsC 1 [.det (.string st)] [0] [0] (fun L _ => [.string st, undef, .pointer none, .slice (some ⟨w1.heap.size, 0, none⟩) 1 1, .string st] ++ U 4) (fun L => []) hsx1 ⟨
    oM,
    trivial⟩ (fun L1 _ w2 hp2 ha2 => ?_)
  refine oneL rfl rfl (wp_appendS (.tmp 3) (.tmp 4) rfl (s := st) (by kernel_rfl) (hrx1.below hp2.bel) (by kernel_rfl) (by omega) (hcx1.trans (hp2.bel.mono hcx1.size)).size (fun vx2 x2 hox2 hbx2 => ?_))
  have hcx2 := (hcx1.trans (hp2.bel.mono hcx1.size)).trans hbx2
  have hsx2 := Heap.start x2
  have hA := OwnY.a hox2
  refine gsC 4 [.det (VB (dig (cat (fun _ => 0) 1 (sby st)) (1 + st.size)) 32), .det (VB (dig (cat (fun _ => 0) 1 (sby st)) (1 + st.size)) 32), .alloc (BC (dig (cat (fun _ => 0) 1 (sby st)) (1 + st.size)) 32), .detB 2 (fun b => .pointer (some ⟨b, 0, none⟩))] [0, 1, 2, 3] [0, 1, 3, 7] (fun L _ => [.string st, undef, L.p 2, .slice (some ⟨w1.heap.size, 0, none⟩) 1 1, .string st, vx2, VB (dig (cat (fun _ => 0) 1 (sby st)) (1 + st.size)) 32, VB (dig (cat (fun _ => 0) 1 (sby st)) (1 + st.size)) 32, L.p 2]) (fun L => [(L.b 2, BC (dig (cat (fun _ => 0) 1 (sby st)) (1 + st.size)) 32)]) hsx2 ⟨
    oH (v := VB (dig (cat (fun _ => 0) 1 (sby st)) (1 + st.size)) 32) (vs := #[vx2]) (fun w hb _ => digA (hA.stay hb) (by omega) (cat_rg By.zero (fun j _ => sby_rg st j))),
    oD (buildTr (dig (cat (fun _ => 0) 1 (sby st)) (1 + st.size))), oB, oAPt,
    trivial⟩ (fun L2 _ w3 hp3 ha3 => ?_)
  refine wpList_nil ?_
  refine k2 _ _ ?_
  refine wp_ret ?_
  refine bodyPost_ret (v := L2.p 2) ?_ rfl ?_
  · exact res_t rfl (by kernel_rfl) _
  · exact ⟨_, rfl, Nat.le_trans hcx2.size (hp3.bound 0 rfl).1, by unfold begS; exact (hp3.bound 0 rfl).2, (hcx2.trans (hp3.bel.mono hcx2.size))⟩
end Go.Proofs.Ytccidmogamnihaa.fpn

/- Talks: Tell, Ask. -/
namespace Go.Proofs.Ytccidmogamnihaa.fpn
open Go.RowKit Pl
set_option linter.unusedVariables false
set_option linter.unusedSimpArgs false
set_option maxRecDepth 4000

def tkI (b : Nat) (t : Int) (g : Nat → Int) (p : Option Addr) (n c : Nat) (w : World) : Nat → Act → World → Prop := fun L a' w' => ∃ (m : Nat) (d : Nat → Value) (v : Value),
  a' = { tmps := ([pt b 0, .int .u8 t, .slice p n c] ++ (D d 3 3 ++ ([v] ++ (D d 7 5 ++ ([.int .i64 ((m : Nat) : Int)] ++ D d 13 22)))) : List Value).toArray, defers := [] } ∧ m + L = 8 ∧ OwnY w' w.heap.size v (tellT t g n) (2 + m) ∧ Below w.heap.size w w'
theorem tellQ {b n : Nat} {s g : Nat → Int} {t : Int} {v : Value} {w : World} (h : isA (tellT t g n) (10 + n) v w) (hbx : Box w b (BC s 32)) (hs0 : By s) (ht : 0 ≤ t ∧ t < 256) (hg : ∀ j, j < n → 0 ≤ g j ∧ g j < 256) (hn : n ≤ 200) : Calls Try.prog 17 #[.pointer (some ⟨b, 0, none⟩), v] w (Ret (VB (tellS s t g n) 32) w) := by
  unfold tellS
  exact behindA h hbx hs0 (tellT_rg ht hg) (by omega)
set_option maxHeartbeats 4000000 in
theorem tellP (b : Nat) (s : Nat → Int) (t : Int) (g : Nat → Int) (p : Option Addr) (n c : Nat) (w : World) (hbx : Box w b (BC s 32)) (hs0 : By s) (ht : 0 ≤ t ∧ t < 256) (hp : AtK .u8 w p n g) (hnc : n ≤ c) (hg : ∀ j, j < n → 0 ≤ g j ∧ g j < 256) (hn : n ≤ 200) : Calls Try.prog 12 #[.pointer (some ⟨b, 0, none⟩), .int .u8 t, .slice p n c] w (RetTk (.tuple #[]) b (tellS s t g n) w) := by
  have hp0 := Heap.start w
  go_enter Try.func12, Try.ntmps12
  refine wp_seq_k (fun K1 k1 => ?_)
  refine wp_seq_k (fun K2 k2 => ?_)
  refine gs [.det (pt b 0), .det (.bool false)] [0, 1] [0, 1] (fun L => [pt b 0, .int .u8 t, .slice p n c] ++ (U 5 ++ ([pt b 0, .bool false] ++ U 25))) (fun L => []) hp0 ⟨
    oM, oW (u := pt b 0) (v := .pointer none) (r := .bool false) (fun w => guardPt _ _ _ _ _ w) (fun w => eqlPt _ w),
    trivial⟩ (fun L0 w1 hp1 => ?_)
  refine k2 _ _ ?_
  refine wp_cond_false (by kernel_rfl) ?_
  refine skips ?_
  refine k1 _ _ ?_
  refine wp_seq_k (fun K3 k3 => ?_)
  refine wp_region_list ?_
  refine gsC 1 [.det (.int .u8 t)] [0] [0] (fun L _ => [pt b 0, .int .u8 t, .slice p n c, undef, undef, undef, undef, undef, pt b 0, .bool false, .int .u8 t] ++ U 24) (fun L => []) hp1 ⟨
    oM,
    trivial⟩ (fun L1 _ w2 hp2 ha2 => ?_)
  refine oneL rfl rfl (wp_buildY rfl (tellT t g n) (by decide) (by decide) (by kernel_rfl) (fun x1 hox1 hbx1 => ?_))
  have hcx1 := hp2.bel.trans (hbx1.mono hp2.bel.size)
  have hrx1 := OwnY.base hox1 hp2.bel.size
  have hsx1 := Heap.start x1
  have hbx_x1 := hbx.up hcx1
  have hp_x1 := hp.below hcx1
  refine gsC 1 [.det (.slice (some ⟨w2.heap.size, 0, none⟩) 2 2)] [0] [0] (fun L _ => [pt b 0, .int .u8 t, .slice p n c, undef, undef, undef, .slice (some ⟨w2.heap.size, 0, none⟩) 2 2, undef, pt b 0, .bool false, .int .u8 t, .slice (some ⟨w2.heap.size, 0, none⟩) 2 2] ++ U 23) (fun L => []) hsx1 ⟨
    oA,
    trivial⟩ (fun L2 _ w3 hp3 ha3 => ?_)
  refine wpList_nil ?_
  refine k3 _ _ ?_
  refine wp_seq_k (fun K4 k4 => ?_)
  refine wp_seq_k (fun K5 k5 => ?_)
  refine gs [.det (.int .i64 0)] [0] [0] (fun L => [pt b 0, .int .u8 t, .slice p n c, undef, undef, undef, .slice (some ⟨w2.heap.size, 0, none⟩) 2 2, undef, pt b 0, .bool false, .int .u8 t, .slice (some ⟨w2.heap.size, 0, none⟩) 2 2, .int .i64 0] ++ U 22) (fun L => []) hp3 ⟨
    oM,
    trivial⟩ (fun L3 w4 hp4 => ?_)
  refine k5 _ _ ?_
  refine wp_block_k (fun K6 k6 => ?_)
  refine wp_loop_ghost (tkI b t g p n c w) 8 ⟨0, (fun zz => ([pt b 0, .int .u8 t, .slice p n c, undef, undef, undef, .slice (some ⟨w2.heap.size, 0, none⟩) 2 2, undef, pt b 0, .bool false, .int .u8 t, .slice (some ⟨w2.heap.size, 0, none⟩) 2 2, .int .i64 0] ++ U 22 : List Value).getD zz undef), _, by kernel_rfl, Nat.zero_add _, (hrx1.below hp4.bel), (hcx1.trans (hp4.bel.mono hcx1.size))⟩ ?_
  rintro L a' W ⟨m, d, v, rfl, hL, hO, hB⟩
  have hsW := Heap.start W
  have hbx_W := hbx.up hB
  have hp_W := hp.below hB
  by_cases hL0 : L = 0
  rotate_left
  · skip
    have hm : m < 8 := by omega
    refine wp_seq_k (fun K7 k7 => ?_)
    refine gs [.det (.bool true)] [0] [0] (fun L => [pt b 0, .int .u8 t, .slice p n c] ++ (D d 3 3 ++ ([v] ++ (D d 7 5 ++ ([.int .i64 ((m : Nat) : Int), .bool true] ++ D d 14 21))))) (fun L => []) hsW ⟨
      oJ .i64 .i64 ((m : Nat) : Int) 8 (h := fun w => (lssI _ _ _ w).trans (by rw [decide_eq_true (by omega)])),
      trivial⟩ (fun L4 w5 hp5 => ?_)
    refine k7 _ _ ?_
    refine wp_seq_k (fun K8 k8 => ?_)
    refine wp_cond_true (by kernel_rfl) ?_
    refine skips ?_
    refine k8 _ _ ?_
    refine wp_seq_k (fun K9 k9 => ?_)
    refine wp_block_k (fun K10 k10 => ?_)
    refine wp_seq_k (fun K11 k11 => ?_)
    refine gs [.det (.int .i64 ((m : Nat) : Int)), .det (.int .i64 ((m : Nat) : Int))] [0, 1] [0, 1] (fun L => [pt b 0, .int .u8 t, .slice p n c] ++ (D d 3 3 ++ ([v, .int .i64 ((m : Nat) : Int)] ++ (D d 8 4 ++ ([.int .i64 ((m : Nat) : Int), .bool true, .int .i64 ((m : Nat) : Int)] ++ D d 15 20))))) (fun L => []) hp5 ⟨
      oM, oA,
      trivial⟩ (fun L5 w6 hp6 => ?_)
    refine k11 _ _ ?_
    refine wp_region_list ?_
    refine gsC 10 [.det (v), .det (.slice p n c), .det (.int .i64 n), .det (.int .u64 ((n : Nat) : Int)), .det (.int .i64 ((m : Nat) : Int)), .det (.int .i64 ((7 - m : Nat) : Int)), .det (.int .i64 ((8 * (7 - m) : Nat) : Int)), .det (.int .u64 ((n / 2 ^ (8 * (7 - m)) : Nat) : Int)), .det (.int .u8 ((n / 2 ^ (8 * (7 - m)) % 256 : Nat) : Int)), .any (isC W.heap.size [] (lst [((n / 2 ^ (8 * (7 - m)) % 256 : Nat) : Int)]) 1)] [0, 1, 2, 3, 4, 5, 6, 7, 8, 9] [0, 1, 3, 7, 15, 31, 63, 127, 255, 511] (fun L _ => [pt b 0, .int .u8 t, .slice p n c, d 3, d 4, d 5, v, .int .i64 ((m : Nat) : Int), d 8, d 9, d 10, d 11, .int .i64 ((m : Nat) : Int), .bool true, .int .i64 ((m : Nat) : Int), v, .slice p n c, .int .i64 n, .int .u64 ((n : Nat) : Int), .int .i64 ((m : Nat) : Int), .int .i64 ((7 - m : Nat) : Int), .int .i64 ((8 * (7 - m) : Nat) : Int), .int .u64 ((n / 2 ^ (8 * (7 - m)) : Nat) : Int), .int .u8 ((n / 2 ^ (8 * (7 - m)) % 256 : Nat) : Int), L.v 9, d 25, d 26, d 27, d 28, d 29, d 30, d 31, d 32, d 33, d 34]) (fun L => []) hp6 ⟨
      oM, oM, fun h => ⟨ob_len (p := p) (n := n) (c := c) (fun _ => rfl) h rfl (fun _ => by kernel_rfl) Try.underlying29⟩, oCv (fun w => convIU n (by omega) w),
      oM, oJ .i64 .i64 7 ((m : Nat) : Int) (h := fun w => subN _ 7 m (7 - m) (by omega) (by omega) w), oJ .i64 .i64 8 ((7 - m : Nat) : Int) (h := fun w => mulII _ 8 (7 - m) (8 * (7 - m)) rfl (by omega) w),
      oJ .u64 .i64 ((n : Nat) : Int) ((8 * (7 - m) : Nat) : Int) (h := fun w => shrUN _ n (8 * (7 - m)) (by omega) w), oCv (fun w => convUB (n / 2 ^ (8 * (7 - m))) w),
      oYC (n := 1) (f := (lst [((n / 2 ^ (8 * (7 - m)) % 256 : Nat) : Int)])) (bs := []) (by decide) (by decide),
      trivial⟩ (fun L6 _ w7 hp7 ha7 => ?_)
    refine oneL rfl rfl (wp_appendA (.tmp 15) (.tmp 24) rfl (v := v) (u := (L6.v 9)) (by kernel_rfl) (hO.below hp7.bel) (by kernel_rfl) (AnyF.at (ha7 (by kernel_rfl)) (j := 9) rfl rfl).a (by omega) (hB.trans (hp7.bel.mono hB.size)).size (fun vx2 x2 hox2 hbx2 => ?_))
    have hcx2 := (hB.trans (hp7.bel.mono hB.size)).trans hbx2
    have hrx2 := OwnY.to hox2 rfl (fun j hj => cat_one (tell_len hm) j hj)
    have hsx2 := Heap.start x2
    have hbx_x2 := hbx.up hcx2
    have hp_x2 := hp.below hcx2
    refine gsC 1 [.det (vx2)] [0] [0] (fun L _ => [pt b 0, .int .u8 t, .slice p n c, d 3, d 4, d 5, vx2, .int .i64 ((m : Nat) : Int), d 8, d 9, d 10, d 11, .int .i64 ((m : Nat) : Int), .bool true, .int .i64 ((m : Nat) : Int), v, .slice p n c, .int .i64 n, .int .u64 ((n : Nat) : Int), .int .i64 ((m : Nat) : Int), .int .i64 ((7 - m : Nat) : Int), .int .i64 ((8 * (7 - m) : Nat) : Int), .int .u64 ((n / 2 ^ (8 * (7 - m)) : Nat) : Int), .int .u8 ((n / 2 ^ (8 * (7 - m)) % 256 : Nat) : Int), (L6.v 9), vx2, d 26, d 27, d 28, d 29, d 30, d 31, d 32, d 33, d 34]) (fun L => []) hsx2 ⟨
      oA,
      trivial⟩ (fun L7 _ w8 hp8 ha8 => ?_)
    refine wpList_nil ?_
    refine k10 _ _ _ ?_
    refine block_normal ?_
    refine k9 _ _ ?_
    refine gs [.det (.int .i64 ((m + 1 : Nat) : Int)), .det (.int .i64 ((m + 1 : Nat) : Int))] [0, 1] [0, 1] (fun L => [pt b 0, .int .u8 t, .slice p n c] ++ (D d 3 3 ++ ([vx2, .int .i64 ((m : Nat) : Int)] ++ (D d 8 4 ++ ([.int .i64 ((m + 1 : Nat) : Int), .bool true, .int .i64 ((m : Nat) : Int), v, .slice p n c, .int .i64 n, .int .u64 ((n : Nat) : Int), .int .i64 ((m : Nat) : Int), .int .i64 ((7 - m : Nat) : Int), .int .i64 ((8 * (7 - m) : Nat) : Int), .int .u64 ((n / 2 ^ (8 * (7 - m)) : Nat) : Int), .int .u8 ((n / 2 ^ (8 * (7 - m)) % 256 : Nat) : Int), (L6.v 9), vx2, .int .i64 ((m + 1 : Nat) : Int)] ++ D d 27 8))))) (fun L => []) hp8 ⟨
      oJ .i64 .i64 ((m : Nat) : Int) 1 (h := fun w => add1N _ (m) (by omega) w), oM,
      trivial⟩ (fun L8 w9 hp9 => ?_)
    exact ⟨L - 1, by omega, m + 1, (fun zz => ([pt b 0, .int .u8 t, .slice p n c] ++ (D d 3 3 ++ ([vx2, .int .i64 ((m : Nat) : Int)] ++ (D d 8 4 ++ ([.int .i64 ((m + 1 : Nat) : Int), .bool true, .int .i64 ((m : Nat) : Int), v, .slice p n c, .int .i64 n, .int .u64 ((n : Nat) : Int), .int .i64 ((m : Nat) : Int), .int .i64 ((7 - m : Nat) : Int), .int .i64 ((8 * (7 - m) : Nat) : Int), .int .u64 ((n / 2 ^ (8 * (7 - m)) : Nat) : Int), .int .u8 ((n / 2 ^ (8 * (7 - m)) % 256 : Nat) : Int), (L6.v 9), vx2, .int .i64 ((m + 1 : Nat) : Int)] ++ D d 27 8)))) : List Value).getD zz undef), vx2, by kernel_rfl, by omega, (hrx2.below hp9.bel), (hcx2.trans (hp9.bel.mono hcx2.size))⟩
  obtain rfl : m = 8 := by omega
  refine wp_seq_k (fun K12 k12 => ?_)
  refine gs [.det (.bool false)] [0] [0] (fun L => [pt b 0, .int .u8 t, .slice p n c] ++ (D d 3 3 ++ ([v] ++ (D d 7 5 ++ ([.int .i64 ((8 : Nat) : Int), .bool false] ++ D d 14 21))))) (fun L => []) hsW ⟨
    oJ .i64 .i64 ((8 : Nat) : Int) 8 (h := fun w => (lssI _ _ _ w).trans (by rw [decide_eq_false (by omega)])),
    trivial⟩ (fun L9 w10 hp10 => ?_)
  refine k12 _ _ ?_
  refine wp_seq_k (fun K13 k13 => ?_)
  refine wp_cond_false (by kernel_rfl) ?_
  refine wp_exit ?_
  refine then_exit ?_
  refine then_exit ?_
  refine k6 _ _ _ ?_
  refine exit_in ?_
  refine k4 _ _ ?_
  refine wp_region_list ?_
  refine gsC 4 [.det (pt b 0), .det (pt b 0), .det (v), .det (.slice p n c)] [0, 1, 2, 3] [0, 1, 3, 7] (fun L _ => [pt b 0, .int .u8 t, .slice p n c, d 3, d 4, d 5, v, d 7, d 8, d 9, d 10, d 11, .int .i64 ((8 : Nat) : Int), .bool false, d 14, d 15, d 16, d 17, d 18, d 19, d 20, d 21, d 22, d 23, d 24, d 25, d 26, pt b 0, pt b 0, v, .slice p n c, d 31, d 32, d 33, d 34]) (fun L => []) hp10 ⟨
    oM, oM, oM, oM,
    trivial⟩ (fun L10 _ w11 hp11 ha11 => ?_)
  refine oneL rfl rfl (wp_appendA (.tmp 29) (.tmp 30) rfl (v := v) (u := .slice p n c) (by kernel_rfl) (hO.below hp11.bel) (by kernel_rfl) ⟨p, c, rfl, hnc, (hp_W.below hp11.bel)⟩ (by omega) (hB.trans (hp11.bel.mono hB.size)).size (fun vx3 x3 hox3 hbx3 => ?_))
  have hcx3 := (hB.trans (hp11.bel.mono hB.size)).trans hbx3
  have hsx3 := Heap.start x3
  have hbx_x3 := hbx.up hcx3
  have hp_x3 := hp.below hcx3
  have hA := (hox3.a).congr (fun j _ => tell_cat t g n j)
  refine gsC 3 [.det (VB (tellS s t g n) 32), .det (pt b 0), .det (pt b 0)] [0, 1, 2] [0, 1, 3] (fun L _ => [pt b 0, .int .u8 t, .slice p n c, d 3, d 4, d 5, v, d 7, d 8, d 9, d 10, d 11, .int .i64 ((8 : Nat) : Int), .bool false, d 14, d 15, d 16, d 17, d 18, d 19, d 20, d 21, d 22, d 23, d 24, d 25, d 26, pt b 0, pt b 0, v, .slice p n c, vx3, VB (tellS s t g n) 32, pt b 0, pt b 0]) (fun L => []) hsx3 ⟨
    oH (v := VB (tellS s t g n) 32) (vs := #[pt b 0, vx3]) (fun w hb _ => tellQ (hA.stay hb) (hbx_x3.up hb) hs0 ht hg hn), oNC, oF fTk0,
    trivial⟩ (fun L11 _ w12 hp12 ha12 => ?_)
  have hBs := (hcx3.trans (hp12.bel.mono hcx3.size))
  refine oneL rfl rfl (wp_store32 (.tmp 34) (.tmp 32) rfl (b := b) (f := s) (g := tellS s t g n) (by kernel_rfl) (by kernel_rfl) (hbx_x3.up hp12.bel) rfl (fun y hwy hxy => ?_))
  refine wpList_nil ?_
  refine bodyPost_end (results_none rfl _ _ _) rfl ?_
  exact ⟨rfl, Chg.of' hBs hwy (Below.refl _ _) rfl, hxy⟩
theorem tellN (t : Int) (u : Value) (w : World) : Calls Try.prog 12 #[.pointer none, .int .u8 t, u] w (Ret (.tuple #[]) w) := by
  have hp0 := Heap.start w
  go_enter Try.func12, Try.ntmps12
  refine wp_seq_k (fun K1 k1 => ?_)
  refine wp_seq_k (fun K2 k2 => ?_)
  refine gs [.det (.pointer none), .det (.bool true)] [0, 1] [0, 1] (fun L => [.pointer none, .int .u8 t, u] ++ (U 5 ++ ([.pointer none, .bool true] ++ U 25))) (fun L => []) hp0 ⟨
    oM, oW (u := .pointer none) (v := .pointer none) (r := .bool true) (fun w => guardPt _ _ _ _ _ w) (fun w => eqlPn w),
    trivial⟩ (fun L0 w1 hp1 => ?_)
  refine k2 _ _ ?_
  refine wp_cond_true (by kernel_rfl) ?_
  refine wp_ret ?_
  refine bodyPost_ret (results_none rfl _ _ _) rfl ?_
  exact ⟨rfl, hp1.bel⟩
theorem askQ0 {b : Nat} {s : Nat → Int} {t : Int} {v : Value} {w : World} (h : isA (lst [2, t, 0]) 3 v w) (hbx : Box w b (BC s 32)) (hs0 : By s) (ht : 0 ≤ t ∧ t < 256) : Calls Try.prog 17 #[.pointer (some ⟨b, 0, none⟩), v] w (Ret (VB (askH s t 0) 32) w) := by
  unfold askH
  exact behindA (m := 3) h hbx hs0 (fun j _ => By.lst3 (by decide) ht (by decide) j) (by decide)
theorem askQ1 {b : Nat} {s : Nat → Int} {t : Int} {v : Value} {w : World} (h : isA (lst [2, t, 1]) 3 v w) (hbx : Box w b (BC s 32)) (hs0 : By s) (ht : 0 ≤ t ∧ t < 256) : Calls Try.prog 17 #[.pointer (some ⟨b, 0, none⟩), v] w (Ret (VB (askH s t 1) 32) w) := by
  unfold askH
  exact behindA (m := 3) h hbx hs0 (fun j _ => By.lst3 (by decide) ht (by decide) j) (by decide)
theorem askQS {b : Nat} {s : Nat → Int} {t : Int} {v : Value} {w : World} (h : isA (lst [3, t]) 2 v w) (hbx : Box w b (BC s 32)) (hs0 : By s) (ht : 0 ≤ t ∧ t < 256) : Calls Try.prog 17 #[.pointer (some ⟨b, 0, none⟩), v] w (Ret (VB (askS s t) 32) w) := by
  unfold askS
  exact behindA (m := 2) h hbx hs0 (fun j _ => By.lst2 (by decide) ht j) (by decide)
set_option maxHeartbeats 4000000 in
theorem askP (b : Nat) (s : Nat → Int) (t : Int) (w : World) (hbx : Box w b (BC s 32)) (hs0 : By s) (ht : 0 ≤ t ∧ t < 256) : Calls Try.prog 9 #[.pointer (some ⟨b, 0, none⟩), .int .u8 t] w (RetTk (RV (askN s t)) b (askS s t) w) := by
  have hp0 := Heap.start w
  go_enter Try.func9, Try.ntmps9
  refine wp_seq_k (fun K1 k1 => ?_)
  refine gs [.alloc (RC 0)] [0] [0] (fun L => [pt b 0, .int .u8 t, undef, undef, L.p 0] ++ U 25) (fun L => [(L.b 0, RC 0)]) hp0 ⟨
    oZ rR,
    trivial⟩ (fun L0 w1 hp1 => ?_)
  refine k1 _ _ ?_
  refine wp_seq_k (fun K2 k2 => ?_)
  refine wp_seq_k (fun K3 k3 => ?_)
  refine gs [.det (pt b 0), .det (.bool false)] [0, 1] [0, 1] (fun L => [pt b 0, .int .u8 t, undef, undef, L0.p 0, undef, undef, pt b 0, .bool false] ++ U 21) (fun L => [(L0.b 0, RC 0)]) hp1 ⟨
    oM, oW (u := pt b 0) (v := .pointer none) (r := .bool false) (fun w => guardPt _ _ _ _ _ w) (fun w => eqlPt _ w),
    trivial⟩ (fun L1 w2 hp2 => ?_)
  refine k3 _ _ ?_
  refine wp_cond_false (by kernel_rfl) ?_
  refine skips ?_
  refine k2 _ _ ?_
  refine wp_seq_k (fun K4 k4 => ?_)
  refine gs [.det (pt b 0), .det (.int .u8 t), .any (isC w.heap.size [] (lst [2, t, 0]) 3), .det (VB (askH s t 0) 32), .det (pt b 0), .det (.int .u8 t), .any (isC w.heap.size [] (lst [2, t, 1]) 3), .det (VB (askH s t 1) 32), .alloc (BC (fun _ => 0) 32), .alloc (BC (fun _ => 0) 32), .store (.new 8) 0 (BC (askH s t 0) 32) (BC (askH s t 0) 32), .store (.new 9) 0 (BC (askH s t 1) 32) (BC (askH s t 1) 32)] [0, 1, 2, 3, 4, 5, 6, 7, 8, 9, 10, 11] [0, 0, 2, 7, 0, 0, 32, 127, 0, 0, 1023, 2047] (fun L => [pt b 0, .int .u8 t, undef, undef, L0.p 0, L.p 8, L.p 9, pt b 0, .bool false, undef, pt b 0, .int .u8 t, L.v 2, VB (askH s t 0) 32, pt b 0, .int .u8 t, L.v 6, VB (askH s t 1) 32] ++ U 12) (fun L => [(L0.b 0, RC 0), (L.b 8, BC (askH s t 0) 32), (L.b 9, BC (askH s t 1) 32)]) hp2 ⟨
    oM, oM, oYC (n := 3) (f := (lst [2, t, 0])) (bs := []) (by decide) (by decide), oCS (fun L => #[pt b 0, L.v 2]) (fun L w hs => askQ0 (hs.any 2 _ rfl rfl).a (hbx.up hs.bel) hs0 ht),
    oM, oM, oYC (n := 3) (f := (lst [2, t, 1])) (bs := []) (by decide) (by decide), oCS (fun L => #[pt b 0, L.v 6]) (fun L w hs => askQ1 (hs.any 6 _ rfl rfl).a (hbx.up hs.bel) hs0 ht),
    oZ rB32, oZ rB32, oT rB32, oT rB32,
    trivial⟩ (fun L2 w3 hp3 => ?_)
  refine k4 _ _ ?_
  refine wp_seq_k (fun K5 k5 => ?_)
  refine wp_region_list ?_
  refine gsC 7 [.det (pt b 0), .det (pt b 0), .det (.int .u8 t), .any (isC w.heap.size [] (lst [3, t]) 2), .det (VB (askS s t) 32), .det (pt b 0), .det (pt b 0)] [0, 1, 2, 3, 4, 5, 6] [0, 1, 3, 7, 15, 31, 63] (fun L _ => [pt b 0, .int .u8 t, undef, undef, L0.p 0, L2.p 8, L2.p 9, pt b 0, .bool false, undef, pt b 0, .int .u8 t, (L2.v 2), VB (askH s t 0) 32, pt b 0, .int .u8 t, (L2.v 6), VB (askH s t 1) 32, pt b 0, pt b 0, .int .u8 t, L.v 3, VB (askS s t) 32, pt b 0, pt b 0] ++ U 5) (fun L => [(L0.b 0, RC 0), (L2.b 8, BC (askH s t 0) 32), (L2.b 9, BC (askH s t 1) 32)]) hp3 ⟨
    oM, oM, oM, oYC (n := 2) (f := (lst [3, t])) (bs := []) (by decide) (by decide), oCS (fun L => #[pt b 0, L.v 3]) (fun L w hs => askQS (hs.any 3 _ rfl rfl).a (hbx.up hs.bel) hs0 ht),
    oNC, oF fTk0,
    trivial⟩ (fun L3 _ w4 hp4 ha4 => ?_)
  have hBs := hp4.bel
  refine oneL rfl rfl (wp_store32 (.tmp 24) (.tmp 22) rfl (b := b) (f := s) (g := askS s t) (by kernel_rfl) (by kernel_rfl) (hbx.up hp4.bel) rfl (fun y hwy hxy => ?_))
  have hpy := Heap.wrOut hp4 hbx.lt hwy
  refine wpList_nil ?_
  refine k5 _ _ ?_
  refine wp_seq_k (fun K6 k6 => ?_)
  refine dr [.det (.slice (some ⟨(L2.b 8), 0, none⟩) 32 32), .det (.slice (some ⟨(L2.b 9), 0, none⟩) 32 32), .any (isS2 (.slice (some ⟨(L2.b 8), 0, none⟩) 32 32) (.slice (some ⟨(L2.b 9), 0, none⟩) 32 32)), .any (isA (cat (askH s t 0) 32 (askH s t 1)) 64), .det (RV (askN s t)), .store (.base 0) 0 (RC (askN s t)) (RC (askN s t))] [0, 1, 2, 3, 4, 5] [0, 0, 3, 7, 15, 31] (fun L => [pt b 0, .int .u8 t, undef, undef, L0.p 0, L2.p 8, L2.p 9, pt b 0, .bool false, undef, pt b 0, .int .u8 t, (L2.v 2), VB (askH s t 0) 32, pt b 0, .int .u8 t, (L2.v 6), VB (askH s t 1) 32, pt b 0, pt b 0, .int .u8 t, (L3.v 3), VB (askS s t) 32, pt b 0, pt b 0, .slice (some ⟨(L2.b 8), 0, none⟩) 32 32, .slice (some ⟨(L2.b 9), 0, none⟩) 32 32, L.v 2, L.v 3, RV (askN s t)]) (fun L => [(L0.b 0, RC (askN s t)), (L2.b 8, BC (askH s t 0) 32), (L2.b 9, BC (askH s t 1) 32)]) hpy ⟨
    oSA (sz := 1) Try.underlying38 sizeY (by decide), oSA (sz := 1) Try.underlying38 sizeY (by decide), oSS2 ⟨_, _, _, rfl⟩ ⟨_, _, _, rfl⟩,
    oY (fun L => #[L.v 2]) (fun _ _ _ h hb => h.stay hb) (fun L w hs => catP (hs.any 2 _ rfl rfl) (seen_at hs (k := 1) rfl) (box_at (seen_at hs (k := 2) rfl)) (Nat.le_refl _) (by decide)),
    oCS (fun L => #[L.v 3]) (fun L w hs => askWide (hs.any 3 _ rfl rfl)), oT rR,
    trivial⟩ (fun L4 w5 hp5 => ?_)
  refine k6 _ _ ?_
  refine wp_ret ?_
  refine bodyPost_ret (v := RV (askN s t)) ?_ rfl ?_
  · exact rc rR rfl (by kernel_rfl) (hp5.bound 0 rfl).2
  · exact ⟨rfl, Chg.of' hBs hwy hp5.bel rfl, hxy.keep hp5.bel.size (hp5.bel.block b hbx.lt)⟩
theorem askNil (t : Int) (w : World) : Calls Try.prog 9 #[.pointer none, .int .u8 t] w (Ret (RV 0) w) := by
  have hp0 := Heap.start w
  go_enter Try.func9, Try.ntmps9
  refine wp_seq_k (fun K1 k1 => ?_)
  refine gs [.alloc (RC 0)] [0] [0] (fun L => [.pointer none, .int .u8 t, undef, undef, L.p 0] ++ U 25) (fun L => [(L.b 0, RC 0)]) hp0 ⟨
    oZ rR,
    trivial⟩ (fun L0 w1 hp1 => ?_)
  refine k1 _ _ ?_
  refine wp_seq_k (fun K2 k2 => ?_)
  refine wp_seq_k (fun K3 k3 => ?_)
  refine gs [.det (.pointer none), .det (.bool true)] [0, 1] [0, 1] (fun L => [.pointer none, .int .u8 t, undef, undef, L0.p 0, undef, undef, .pointer none, .bool true] ++ U 21) (fun L => [(L0.b 0, RC 0)]) hp1 ⟨
    oM, oW (u := .pointer none) (v := .pointer none) (r := .bool true) (fun w => guardPt _ _ _ _ _ w) (fun w => eqlPn w),
    trivial⟩ (fun L1 w2 hp2 => ?_)
  refine k3 _ _ ?_
  refine wp_cond_true (by kernel_rfl) ?_
  refine wp_seq_k (fun K4 k4 => ?_)
  refine gs [.det (RV 0), .store (.base 0) 0 (RC 0) (RC 0)] [0, 1] [0, 1] (fun L => [.pointer none, .int .u8 t, undef, undef, L0.p 0, undef, undef, .pointer none, .bool true, RV 0] ++ U 20) (fun L => [(L0.b 0, RC 0)]) hp2 ⟨
    oD buildRn, oT rR,
    trivial⟩ (fun L2 w3 hp3 => ?_)
  refine k4 _ _ ?_
  refine wp_ret ?_
  refine bodyPost_ret (v := RV 0) ?_ rfl ?_
  · exact rc rR rfl (by kernel_rfl) (hp3.bound 0 rfl).2
  · exact ⟨rfl, hp3.bel⟩
end Go.Proofs.Ytccidmogamnihaa.fpn

/- The reference's talk: Tell, Ask. -/
namespace Go.Proofs.Ytccidmogamnihaa.fpn
open Go.RowKit Pl
set_option linter.unusedVariables false
set_option linter.unusedSimpArgs false
set_option maxRecDepth 4000

def trI (b : Nat) (s : Nat → Int) (t : Int) (g : Nat → Int) (p : Option Addr) (n c : Nat) (w : World) : Nat → Act → World → Prop := fun L a' w' => ∃ (m : Nat) (d : Nat → Value) (v : Value),
  a' = { tmps := ([pt b 0, .int .u8 t, .slice p n c] ++ (D d 3 3 ++ ([v, .int .i64 (7 - ((m : Nat) : Int))] ++ D d 8 30)) : List Value).toArray, defers := [] } ∧ m + L = 8 ∧ OwnY w' w.heap.size v (cat s 32 (tellT t g n)) (34 + m) ∧ Below w.heap.size w w'
set_option maxHeartbeats 4000000 in
theorem rtellP (b : Nat) (s : Nat → Int) (t : Int) (g : Nat → Int) (p : Option Addr) (n c : Nat) (w : World) (hbx : Box w b (BC s 32)) (hs0 : By s) (ht : 0 ≤ t ∧ t < 256) (hp : AtK .u8 w p n g) (hnc : n ≤ c) (hg : ∀ j, j < n → 0 ≤ g j ∧ g j < 256) (hn : n ≤ 200) : Calls Try.prog 13 #[.pointer (some ⟨b, 0, none⟩), .int .u8 t, .slice p n c] w (RetTk (.tuple #[]) b (tellS s t g n) w) := by
  have hp0 := Heap.start w
  go_enter Try.func13, Try.ntmps13
  refine wp_seq_k (fun K1 k1 => ?_)
  refine wp_region_list ?_
  refine oneL rfl rfl (wp_emptyY (f := cat s 32 (tellT t g n)) rfl (fun x1 hox1 hbx1 => ?_))
  have hcx1 := hp0.bel.trans (hbx1.mono hp0.bel.size)
  have hrx1 := OwnY.base hox1 hp0.bel.size
  have hsx1 := Heap.start x1
  have hbx_x1 := hbx.up hcx1
  have hp_x1 := hp.below hcx1
  refine gsC 4 [.det (pt b 0), .det (pt b 0), .det (pt b 0), .det (.slice (some ⟨b, 0, none⟩) 32 32)] [0, 1, 2, 3] [0, 1, 3, 7] (fun L _ => [pt b 0, .int .u8 t, .slice p n c, undef, undef, undef, undef, undef, .slice (some ⟨w.heap.size, 0, none⟩) 0 0, pt b 0, pt b 0, pt b 0, .slice (some ⟨b, 0, none⟩) 32 32] ++ U 25) (fun L => []) hsx1 ⟨
    oM, oNC, oF fTr0, oSA (sz := 1) Try.underlying38 sizeY (by decide),
    trivial⟩ (fun L0 _ w1 hp1 ha1 => ?_)
  refine oneL rfl rfl (wp_appendA (.tmp 8) (.tmp 12) rfl (v := .slice (some ⟨w.heap.size, 0, none⟩) 0 0) (u := .slice (some ⟨b, 0, none⟩) 32 32) (by kernel_rfl) (hrx1.below hp1.bel) (by kernel_rfl) (boxA (hbx_x1.up hp1.bel) 32 (Nat.le_refl _)) (by omega) (hcx1.trans (hp1.bel.mono hcx1.size)).size (fun vx2 x2 hox2 hbx2 => ?_))
  have hcx2 := (hcx1.trans (hp1.bel.mono hcx1.size)).trans hbx2
  have hrx2 := OwnY.to hox2 (Nat.zero_add 32) (fun j hj => cat_nil (cat s 32 (tellT t g n)) (tellT t g n) s j hj)
  have hsx2 := Heap.start x2
  have hbx_x2 := hbx.up hcx2
  have hp_x2 := hp.below hcx2
  refine gsC 2 [.det (.int .u8 t), .any (isC x2.heap.size [] (lst [1, t]) 2)] [0, 1] [0, 1] (fun L _ => [pt b 0, .int .u8 t, .slice p n c, undef, undef, undef, undef, undef, .slice (some ⟨w.heap.size, 0, none⟩) 0 0, pt b 0, pt b 0, pt b 0, .slice (some ⟨b, 0, none⟩) 32 32, vx2, .int .u8 t, L.v 1] ++ U 22) (fun L => []) hsx2 ⟨
    oM, oYC (n := 2) (f := (lst [1, t])) (bs := []) (by decide) (by decide),
    trivial⟩ (fun L1 _ w2 hp2 ha2 => ?_)
  refine oneL rfl rfl (wp_appendA (.tmp 13) (.tmp 15) rfl (v := vx2) (u := (L1.v 1)) (by kernel_rfl) (hrx2.below hp2.bel) (by kernel_rfl) (AnyF.at (ha2 (by kernel_rfl)) (j := 1) rfl rfl).a (by omega) (hcx2.trans (hp2.bel.mono hcx2.size)).size (fun vx3 x3 hox3 hbx3 => ?_))
  have hcx3 := (hcx2.trans (hp2.bel.mono hcx2.size)).trans hbx3
  have hrx3 := OwnY.to hox3 rfl (fun j hj => cat_two (cat_t s t g n 0) (cat_t s t g n 1) j hj)
  have hsx3 := Heap.start x3
  have hbx_x3 := hbx.up hcx3
  have hp_x3 := hp.below hcx3
  refine gsC 1 [.det (vx3)] [0] [0] (fun L _ => [pt b 0, .int .u8 t, .slice p n c, undef, undef, undef, vx3, undef, .slice (some ⟨w.heap.size, 0, none⟩) 0 0, pt b 0, pt b 0, pt b 0, .slice (some ⟨b, 0, none⟩) 32 32, vx2, .int .u8 t, (L1.v 1), vx3] ++ U 21) (fun L => []) hsx3 ⟨
    oA,
    trivial⟩ (fun L2 _ w3 hp3 ha3 => ?_)
  refine wpList_nil ?_
  refine k1 _ _ ?_
  refine wp_seq_k (fun K2 k2 => ?_)
  refine wp_seq_k (fun K3 k3 => ?_)
  refine gs [.det (.int .i64 7)] [0] [0] (fun L => [pt b 0, .int .u8 t, .slice p n c, undef, undef, undef, vx3, .int .i64 7, .slice (some ⟨w.heap.size, 0, none⟩) 0 0, pt b 0, pt b 0, pt b 0, .slice (some ⟨b, 0, none⟩) 32 32, vx2, .int .u8 t, (L1.v 1), vx3] ++ U 21) (fun L => []) hp3 ⟨
    oA,
    trivial⟩ (fun L3 w4 hp4 => ?_)
  refine k3 _ _ ?_
  refine wp_block_k (fun K4 k4 => ?_)
  refine wp_loop_ghost (trI b s t g p n c w) 8 ⟨0, (fun zz => ([pt b 0, .int .u8 t, .slice p n c, undef, undef, undef, vx3, .int .i64 7, .slice (some ⟨w.heap.size, 0, none⟩) 0 0, pt b 0, pt b 0, pt b 0, .slice (some ⟨b, 0, none⟩) 32 32, vx2, .int .u8 t, (L1.v 1), vx3] ++ U 21 : List Value).getD zz undef), _, by kernel_rfl, Nat.zero_add _, (hrx3.below hp4.bel), (hcx3.trans (hp4.bel.mono hcx3.size))⟩ ?_
  rintro L a' W ⟨m, d, v, rfl, hL, hO, hB⟩
  have hsW := Heap.start W
  have hbx_W := hbx.up hB
  have hp_W := hp.below hB
  by_cases hL0 : L = 0
  rotate_left
  · skip
    have hm : m < 8 := by omega
    refine wp_seq_k (fun K5 k5 => ?_)
    refine wp_seq_k (fun K6 k6 => ?_)
    refine gs [.det (.int .i64 (7 - ((m : Nat) : Int))), .det (.bool true)] [0, 1] [0, 1] (fun L => [pt b 0, .int .u8 t, .slice p n c] ++ (D d 3 3 ++ ([v, .int .i64 (7 - ((m : Nat) : Int))] ++ (D d 8 9 ++ ([.int .i64 (7 - ((m : Nat) : Int)), .bool true] ++ D d 19 19))))) (fun L => []) hsW ⟨
      oM, oJ .i64 .i64 (7 - ((m : Nat) : Int)) 0 (h := fun w => (geqI _ _ _ w).trans (by rw [decide_eq_true (by omega)])),
      trivial⟩ (fun L4 w5 hp5 => ?_)
    refine k6 _ _ ?_
    refine wp_cond_true (by kernel_rfl) ?_
    refine skips ?_
    refine k5 _ _ ?_
    refine wp_seq_k (fun K7 k7 => ?_)
    refine wp_block_k (fun K8 k8 => ?_)
    refine wp_region_list ?_
    refine gsC 9 [.det (v), .det (.slice p n c), .det (.int .i64 n), .det (.int .u64 ((n : Nat) : Int)), .det (.int .i64 (7 - ((m : Nat) : Int))), .det (.int .i64 ((8 * (7 - m) : Nat) : Int)), .det (.int .u64 ((n / 2 ^ (8 * (7 - m)) : Nat) : Int)), .det (.int .u8 ((n / 2 ^ (8 * (7 - m)) % 256 : Nat) : Int)), .any (isC W.heap.size [] (lst [((n / 2 ^ (8 * (7 - m)) % 256 : Nat) : Int)]) 1)] [0, 1, 2, 3, 4, 5, 6, 7, 8] [0, 1, 3, 7, 15, 31, 63, 127, 255] (fun L _ => [pt b 0, .int .u8 t, .slice p n c, d 3, d 4, d 5, v, .int .i64 (7 - ((m : Nat) : Int)), d 8, d 9, d 10, d 11, d 12, d 13, d 14, d 15, d 16, .int .i64 (7 - ((m : Nat) : Int)), .bool true, d 19, d 20, v, .slice p n c, .int .i64 n, .int .u64 ((n : Nat) : Int), .int .i64 (7 - ((m : Nat) : Int)), .int .i64 ((8 * (7 - m) : Nat) : Int), .int .u64 ((n / 2 ^ (8 * (7 - m)) : Nat) : Int), .int .u8 ((n / 2 ^ (8 * (7 - m)) % 256 : Nat) : Int), L.v 8, d 30, d 31, d 32, d 33, d 34, d 35, d 36, d 37]) (fun L => []) hp5 ⟨
      oM, oM, fun h => ⟨ob_len (p := p) (n := n) (c := c) (fun _ => rfl) h rfl (fun _ => by kernel_rfl) Try.underlying29⟩, oCv (fun w => convIU n (by omega) w),
      oM, oJ .i64 .i64 8 (7 - ((m : Nat) : Int)) (h := fun w => mul8I _ m hm w), oJ .u64 .i64 ((n : Nat) : Int) ((8 * (7 - m) : Nat) : Int) (h := fun w => shrUN _ n (8 * (7 - m)) (by omega) w),
      oCv (fun w => convUB (n / 2 ^ (8 * (7 - m))) w), oYC (n := 1) (f := (lst [((n / 2 ^ (8 * (7 - m)) % 256 : Nat) : Int)])) (bs := []) (by decide) (by decide),
      trivial⟩ (fun L5 _ w6 hp6 ha6 => ?_)
    refine oneL rfl rfl (wp_appendA (.tmp 21) (.tmp 29) rfl (v := v) (u := (L5.v 8)) (by kernel_rfl) (hO.below hp6.bel) (by kernel_rfl) (AnyF.at (ha6 (by kernel_rfl)) (j := 8) rfl rfl).a (by omega) (hB.trans (hp6.bel.mono hB.size)).size (fun vx4 x4 hox4 hbx4 => ?_))
    have hcx4 := (hB.trans (hp6.bel.mono hB.size)).trans hbx4
    have hrx4 := OwnY.to hox4 rfl (fun j hj => cat_one (cat_tl s hm) j hj)
    have hsx4 := Heap.start x4
    have hbx_x4 := hbx.up hcx4
    have hp_x4 := hp.below hcx4
    refine gsC 1 [.det (vx4)] [0] [0] (fun L _ => [pt b 0, .int .u8 t, .slice p n c, d 3, d 4, d 5, vx4, .int .i64 (7 - ((m : Nat) : Int)), d 8, d 9, d 10, d 11, d 12, d 13, d 14, d 15, d 16, .int .i64 (7 - ((m : Nat) : Int)), .bool true, d 19, d 20, v, .slice p n c, .int .i64 n, .int .u64 ((n : Nat) : Int), .int .i64 (7 - ((m : Nat) : Int)), .int .i64 ((8 * (7 - m) : Nat) : Int), .int .u64 ((n / 2 ^ (8 * (7 - m)) : Nat) : Int), .int .u8 ((n / 2 ^ (8 * (7 - m)) % 256 : Nat) : Int), (L5.v 8), vx4, d 31, d 32, d 33, d 34, d 35, d 36, d 37]) (fun L => []) hsx4 ⟨
      oA,
      trivial⟩ (fun L6 _ w7 hp7 ha7 => ?_)
    refine wpList_nil ?_
    refine k8 _ _ _ ?_
    refine block_normal ?_
    refine k7 _ _ ?_
    refine gs [.det (.int .i64 (7 - ((m : Nat) : Int))), .det (.int .i64 (7 - ((m + 1 : Nat) : Int))), .det (.int .i64 (7 - ((m + 1 : Nat) : Int)))] [0, 1, 2] [0, 1, 3] (fun L => [pt b 0, .int .u8 t, .slice p n c] ++ (D d 3 3 ++ ([vx4, .int .i64 (7 - ((m + 1 : Nat) : Int))] ++ (D d 8 9 ++ ([.int .i64 (7 - ((m : Nat) : Int)), .bool true, .int .i64 (7 - ((m : Nat) : Int)), .int .i64 (7 - ((m + 1 : Nat) : Int)), v, .slice p n c, .int .i64 n, .int .u64 ((n : Nat) : Int), .int .i64 (7 - ((m : Nat) : Int)), .int .i64 ((8 * (7 - m) : Nat) : Int), .int .u64 ((n / 2 ^ (8 * (7 - m)) : Nat) : Int), .int .u8 ((n / 2 ^ (8 * (7 - m)) % 256 : Nat) : Int), (L5.v 8), vx4] ++ D d 31 7))))) (fun L => []) hp7 ⟨
      oM, oJ .i64 .i64 (7 - ((m : Nat) : Int)) 1 (h := fun w => subI7 _ m (by omega) w), oA,
      trivial⟩ (fun L7 w8 hp8 => ?_)
    exact ⟨L - 1, by omega, m + 1, (fun zz => ([pt b 0, .int .u8 t, .slice p n c] ++ (D d 3 3 ++ ([vx4, .int .i64 (7 - ((m + 1 : Nat) : Int))] ++ (D d 8 9 ++ ([.int .i64 (7 - ((m : Nat) : Int)), .bool true, .int .i64 (7 - ((m : Nat) : Int)), .int .i64 (7 - ((m + 1 : Nat) : Int)), v, .slice p n c, .int .i64 n, .int .u64 ((n : Nat) : Int), .int .i64 (7 - ((m : Nat) : Int)), .int .i64 ((8 * (7 - m) : Nat) : Int), .int .u64 ((n / 2 ^ (8 * (7 - m)) : Nat) : Int), .int .u8 ((n / 2 ^ (8 * (7 - m)) % 256 : Nat) : Int), (L5.v 8), vx4] ++ D d 31 7)))) : List Value).getD zz undef), vx4, by kernel_rfl, by omega, (hrx4.below hp8.bel), (hcx4.trans (hp8.bel.mono hcx4.size))⟩
  obtain rfl : m = 8 := by omega
  refine wp_seq_k (fun K9 k9 => ?_)
  refine wp_seq_k (fun K10 k10 => ?_)
  refine gs [.det (.int .i64 (7 - ((8 : Nat) : Int))), .det (.bool false)] [0, 1] [0, 1] (fun L => [pt b 0, .int .u8 t, .slice p n c] ++ (D d 3 3 ++ ([v, .int .i64 (7 - ((8 : Nat) : Int))] ++ (D d 8 9 ++ ([.int .i64 (7 - ((8 : Nat) : Int)), .bool false] ++ D d 19 19))))) (fun L => []) hsW ⟨
    oM, oJ .i64 .i64 (7 - ((8 : Nat) : Int)) 0 (h := fun w => (geqI _ _ _ w).trans (by rw [decide_eq_false (by omega)])),
    trivial⟩ (fun L8 w9 hp9 => ?_)
  refine k10 _ _ ?_
  refine wp_cond_false (by kernel_rfl) ?_
  refine wp_exit ?_
  refine then_exit ?_
  refine then_exit ?_
  refine k4 _ _ _ ?_
  refine exit_in ?_
  refine k2 _ _ ?_
  refine wp_region_list ?_
  refine gsC 3 [.det (pt b 0), .det (v), .det (.slice p n c)] [0, 1, 2] [0, 1, 3] (fun L _ => [pt b 0, .int .u8 t, .slice p n c, d 3, d 4, d 5, v, .int .i64 (7 - ((8 : Nat) : Int)), d 8, d 9, d 10, d 11, d 12, d 13, d 14, d 15, d 16, .int .i64 (7 - ((8 : Nat) : Int)), .bool false, d 19, d 20, d 21, d 22, d 23, d 24, d 25, d 26, d 27, d 28, d 29, d 30, pt b 0, v, .slice p n c, d 34, d 35, d 36, d 37]) (fun L => []) hp9 ⟨
    oM, oM, oM,
    trivial⟩ (fun L9 _ w10 hp10 ha10 => ?_)
  refine oneL rfl rfl (wp_appendA (.tmp 32) (.tmp 33) rfl (v := v) (u := .slice p n c) (by kernel_rfl) (hO.below hp10.bel) (by kernel_rfl) ⟨p, c, rfl, hnc, (hp_W.below hp10.bel)⟩ (by omega) (hB.trans (hp10.bel.mono hB.size)).size (fun vx5 x5 hox5 hbx5 => ?_))
  have hcx5 := (hB.trans (hp10.bel.mono hB.size)).trans hbx5
  have hrx5 := OwnY.to hox5 (show 34 + 8 + n = 32 + (10 + n) by omega) (fun j _ => cat_tg s t g n j)
  have hsx5 := Heap.start x5
  have hbx_x5 := hbx.up hcx5
  have hp_x5 := hp.below hcx5
  have hA := (hrx5).a
  refine gsC 3 [.det (VB (tellS s t g n) 32), .det (pt b 0), .det (pt b 0)] [0, 1, 2] [0, 1, 3] (fun L _ => [pt b 0, .int .u8 t, .slice p n c, d 3, d 4, d 5, v, .int .i64 (7 - ((8 : Nat) : Int)), d 8, d 9, d 10, d 11, d 12, d 13, d 14, d 15, d 16, .int .i64 (7 - ((8 : Nat) : Int)), .bool false, d 19, d 20, d 21, d 22, d 23, d 24, d 25, d 26, d 27, d 28, d 29, d 30, pt b 0, v, .slice p n c, vx5, VB (tellS s t g n) 32, pt b 0, pt b 0]) (fun L => []) hsx5 ⟨
    oH (v := VB (tellS s t g n) 32) (vs := #[vx5]) (fun w hb _ => tellD (hA.stay hb) hs0 ht hg hn), oNC, oF fTr0,
    trivial⟩ (fun L10 _ w11 hp11 ha11 => ?_)
  have hBs := (hcx5.trans (hp11.bel.mono hcx5.size))
  refine oneL rfl rfl (wp_store32 (.tmp 37) (.tmp 35) rfl (b := b) (f := s) (g := tellS s t g n) (by kernel_rfl) (by kernel_rfl) (hbx_x5.up hp11.bel) rfl (fun y hwy hxy => ?_))
  refine wpList_nil ?_
  refine bodyPost_end (results_none rfl _ _ _) rfl ?_
  exact ⟨rfl, Chg.of' hBs hwy (Below.refl _ _) rfl, hxy⟩
set_option maxHeartbeats 4000000 in
theorem raskP (b : Nat) (s : Nat → Int) (t : Int) (w : World) (hbx : Box w b (BC s 32)) (hs0 : By s) (ht : 0 ≤ t ∧ t < 256) : Calls Try.prog 10 #[.pointer (some ⟨b, 0, none⟩), .int .u8 t] w (RetTk (RV (askN s t)) b (askS s t) w) := by
  have hp0 := Heap.start w
  go_enter Try.func10, Try.ntmps10
  refine wp_seq_k (fun K1 k1 => ?_)
  refine gs [.alloc (RC 0)] [0] [0] (fun L => [pt b 0, .int .u8 t, undef, undef, L.p 0] ++ U 39) (fun L => [(L.b 0, RC 0)]) hp0 ⟨
    oZ rR,
    trivial⟩ (fun L0 w1 hp1 => ?_)
  refine k1 _ _ ?_
  refine wp_seq_k (fun K2 k2 => ?_)
  have ge4 := (hp1.bound 0 rfl).1
  have haq1 := hp1.bel
  have hbxq1 := hbx.up haq1
  have h4 := (hp1.bound 0 rfl).2
  have hallq1 := haq1
  have hsq1 := Heap.start w1
  refine wp_region_list ?_
  refine oneL rfl rfl (wp_emptyY (f := s) rfl (fun x2 hox2 hbx2 => ?_))
  have hcx2 := ((Below.refl w1.heap.size w1).trans (hsq1.bel.mono (Below.refl w1.heap.size w1).size)).trans (hbx2.mono ((Below.refl w1.heap.size w1).trans (hsq1.bel.mono (Below.refl w1.heap.size w1).size)).size)
  have hrx2 := OwnY.base hox2 ((Below.refl w1.heap.size w1).trans (hsq1.bel.mono (Below.refl w1.heap.size w1).size)).size
  have hsx2 := Heap.start x2
  have hbx_x2 := hbxq1.up hcx2
  have h4_x2 := h4.up hcx2
  refine gsC 4 [.det (pt b 0), .det (pt b 0), .det (pt b 0), .det (.slice (some ⟨b, 0, none⟩) 32 32)] [0, 1, 2, 3] [0, 1, 3, 7] (fun L _ => [pt b 0, .int .u8 t, undef, undef, L0.p 0, undef, undef, undef, .slice (some ⟨w1.heap.size, 0, none⟩) 0 0, pt b 0, pt b 0, pt b 0, .slice (some ⟨b, 0, none⟩) 32 32] ++ U 31) (fun L => []) hsx2 ⟨
    oM, oNC, oF fTr0, oSA (sz := 1) Try.underlying38 sizeY (by decide),
    trivial⟩ (fun L1 _ w2 hp2 ha2 => ?_)
  refine oneL rfl rfl (wp_appendA (.tmp 8) (.tmp 12) rfl (v := .slice (some ⟨w1.heap.size, 0, none⟩) 0 0) (u := .slice (some ⟨b, 0, none⟩) 32 32) (by kernel_rfl) (hrx2.below hp2.bel) (by kernel_rfl) (boxA (hbx_x2.up hp2.bel) 32 (Nat.le_refl _)) (by omega) (hcx2.trans (hp2.bel.mono hcx2.size)).size (fun vx3 x3 hox3 hbx3 => ?_))
  have hcx3 := (hcx2.trans (hp2.bel.mono hcx2.size)).trans hbx3
  have hrx3 := OwnY.to hox3 (Nat.zero_add 32) (fun j hj => cat_at1 s s (Nat.zero_le j))
  have hsx3 := Heap.start x3
  have hbx_x3 := hbxq1.up hcx3
  have h4_x3 := h4.up hcx3
  refine gsC 1 [.det (vx3)] [0] [0] (fun L _ => [pt b 0, .int .u8 t, undef, undef, L0.p 0, vx3, undef, undef, .slice (some ⟨w1.heap.size, 0, none⟩) 0 0, pt b 0, pt b 0, pt b 0, .slice (some ⟨b, 0, none⟩) 32 32, vx3] ++ U 30) (fun L => []) hsx3 ⟨
    oA,
    trivial⟩ (fun L2 _ w3 hp3 ha3 => ?_)
  refine wpList_nil ?_
  have haq4 := (hcx3.trans (hp3.bel.mono hcx3.size))
  have hbxq4 := hbxq1.up haq4
  have h4q4 := h4.up haq4
  have h5 := (hrx3.below hp3.bel).a
  have hallq4 := hallq1.trans (haq4.mono hallq1.size)
  have hsq4 := Heap.start w3
  refine k2 _ _ ?_
  refine wp_seq_k (fun K3 k3 => ?_)
  refine wp_region_list ?_
  refine oneL rfl rfl (wp_emptyY (f := (cat s 32 (lst [2, t, 0]))) rfl (fun x5 hox5 hbx5 => ?_))
  have hcx5 := ((Below.refl w3.heap.size w3).trans (hsq4.bel.mono (Below.refl w3.heap.size w3).size)).trans (hbx5.mono ((Below.refl w3.heap.size w3).trans (hsq4.bel.mono (Below.refl w3.heap.size w3).size)).size)
  have hrx5 := OwnY.base hox5 ((Below.refl w3.heap.size w3).trans (hsq4.bel.mono (Below.refl w3.heap.size w3).size)).size
  have hsx5 := Heap.start x5
  have hbx_x5 := hbxq4.up hcx5
  have h4_x5 := h4q4.up hcx5
  have h5_x5 := h5.stay hcx5
  refine gsC 1 [.det (vx3)] [0] [0] (fun L _ => [pt b 0, .int .u8 t, undef, undef, L0.p 0, vx3, undef, undef, .slice (some ⟨w1.heap.size, 0, none⟩) 0 0, pt b 0, pt b 0, pt b 0, .slice (some ⟨b, 0, none⟩) 32 32, vx3, .slice (some ⟨w3.heap.size, 0, none⟩) 0 0, vx3] ++ U 28) (fun L => []) hsx5 ⟨
    oM,
    trivial⟩ (fun L3 _ w4 hp4 ha4 => ?_)
  refine oneL rfl rfl (wp_appendA (.tmp 14) (.tmp 15) rfl (v := .slice (some ⟨w3.heap.size, 0, none⟩) 0 0) (u := vx3) (by kernel_rfl) (hrx5.below hp4.bel) (by kernel_rfl) (h5_x5.stay hp4.bel) (by omega) (hcx5.trans (hp4.bel.mono hcx5.size)).size (fun vx6 x6 hox6 hbx6 => ?_))
  have hcx6 := (hcx5.trans (hp4.bel.mono hcx5.size)).trans hbx6
  have hrx6 := OwnY.to hox6 (Nat.zero_add 32) (fun j hj => cat_nil (cat s 32 (lst [2, t, 0])) (lst [2, t, 0]) s j hj)
  have hsx6 := Heap.start x6
  have hbx_x6 := hbxq4.up hcx6
  have h4_x6 := h4q4.up hcx6
  have h5_x6 := h5.stay hcx6
  refine gsC 2 [.det (.int .u8 t), .any (isC x6.heap.size [] (lst [2, t, 0]) 3)] [0, 1] [0, 1] (fun L _ => [pt b 0, .int .u8 t, undef, undef, L0.p 0, vx3, undef, undef, .slice (some ⟨w1.heap.size, 0, none⟩) 0 0, pt b 0, pt b 0, pt b 0, .slice (some ⟨b, 0, none⟩) 32 32, vx3, .slice (some ⟨w3.heap.size, 0, none⟩) 0 0, vx3, vx6, .int .u8 t, L.v 1] ++ U 25) (fun L => []) hsx6 ⟨
    oM, oYC (n := 3) (f := (lst [2, t, 0])) (bs := []) (by decide) (by decide),
    trivial⟩ (fun L4 _ w5 hp5 ha5 => ?_)
  refine oneL rfl rfl (wp_appendA (.tmp 16) (.tmp 18) rfl (v := vx6) (u := (L4.v 1)) (by kernel_rfl) (hrx6.below hp5.bel) (by kernel_rfl) (AnyF.at (ha5 (by kernel_rfl)) (j := 1) rfl rfl).a (by omega) (hcx6.trans (hp5.bel.mono hcx6.size)).size (fun vx7 x7 hox7 hbx7 => ?_))
  have hcx7 := (hcx6.trans (hp5.bel.mono hcx6.size)).trans hbx7
  have hrx7 := OwnY.to hox7 rfl (fun j _ => cat_same s (lst [2, t, 0]) j)
  have hsx7 := Heap.start x7
  have hbx_x7 := hbxq4.up hcx7
  have h4_x7 := h4q4.up hcx7
  have h5_x7 := h5.stay hcx7
  have hAx7 := (hrx7).a
  refine gsC 3 [.det (VB (askH s t 0) 32), .alloc (BC (fun _ => 0) 32), .store (.new 1) 0 (BC (askH s t 0) 32) (BC (askH s t 0) 32)] [0, 1, 2] [0, 1, 3] (fun L _ => [pt b 0, .int .u8 t, undef, undef, L0.p 0, vx3, L.p 1, undef, .slice (some ⟨w1.heap.size, 0, none⟩) 0 0, pt b 0, pt b 0, pt b 0, .slice (some ⟨b, 0, none⟩) 32 32, vx3, .slice (some ⟨w3.heap.size, 0, none⟩) 0 0, vx3, vx6, .int .u8 t, (L4.v 1), vx7, VB (askH s t 0) 32] ++ U 23) (fun L => [(L.b 1, BC (askH s t 0) 32)]) hsx7 ⟨
    oH (v := VB (askH s t 0) 32) (vs := #[vx7]) (fun w hb _ => askD0 (hAx7.stay hb) hs0 ht), oZ rB32, oT rB32,
    trivial⟩ (fun L5 _ w6 hp6 ha6 => ?_)
  refine wpList_nil ?_
  have ge6 := Nat.le_trans hcx7.size (hp6.bound 0 rfl).1
  have haq8 := (hcx7.trans (hp6.bel.mono hcx7.size))
  have hbxq8 := hbxq4.up haq8
  have h4q8 := h4q4.up haq8
  have h5q8 := h5.stay haq8
  have h6 := (hp6.bound 0 rfl).2
  have hallq8 := hallq4.trans (haq8.mono hallq4.size)
  have hsq8 := Heap.start w6
  have q46 : (L0.b 0) < (L5.b 1) := Nat.lt_of_lt_of_le h4q4.lt ge6
  refine k3 _ _ ?_
  refine wp_seq_k (fun K4 k4 => ?_)
  refine wp_region_list ?_
  refine oneL rfl rfl (wp_emptyY (f := (cat s 32 (lst [2, t, 1]))) rfl (fun x9 hox9 hbx9 => ?_))
  have hcx9 := ((Below.refl w6.heap.size w6).trans (hsq8.bel.mono (Below.refl w6.heap.size w6).size)).trans (hbx9.mono ((Below.refl w6.heap.size w6).trans (hsq8.bel.mono (Below.refl w6.heap.size w6).size)).size)
  have hrx9 := OwnY.base hox9 ((Below.refl w6.heap.size w6).trans (hsq8.bel.mono (Below.refl w6.heap.size w6).size)).size
  have hsx9 := Heap.start x9
  have hbx_x9 := hbxq8.up hcx9
  have h4_x9 := h4q8.up hcx9
  have h5_x9 := h5q8.stay hcx9
  have h6_x9 := h6.up hcx9
  refine gsC 1 [.det (vx3)] [0] [0] (fun L _ => [pt b 0, .int .u8 t, undef, undef, L0.p 0, vx3, L5.p 1, undef, .slice (some ⟨w1.heap.size, 0, none⟩) 0 0, pt b 0, pt b 0, pt b 0, .slice (some ⟨b, 0, none⟩) 32 32, vx3, .slice (some ⟨w3.heap.size, 0, none⟩) 0 0, vx3, vx6, .int .u8 t, (L4.v 1), vx7, VB (askH s t 0) 32, .slice (some ⟨w6.heap.size, 0, none⟩) 0 0, vx3] ++ U 21) (fun L => []) hsx9 ⟨
    oM,
    trivial⟩ (fun L6 _ w7 hp7 ha7 => ?_)
  refine oneL rfl rfl (wp_appendA (.tmp 21) (.tmp 22) rfl (v := .slice (some ⟨w6.heap.size, 0, none⟩) 0 0) (u := vx3) (by kernel_rfl) (hrx9.below hp7.bel) (by kernel_rfl) (h5_x9.stay hp7.bel) (by omega) (hcx9.trans (hp7.bel.mono hcx9.size)).size (fun vx10 x10 hox10 hbx10 => ?_))
  have hcx10 := (hcx9.trans (hp7.bel.mono hcx9.size)).trans hbx10
  have hrx10 := OwnY.to hox10 (Nat.zero_add 32) (fun j hj => cat_nil (cat s 32 (lst [2, t, 1])) (lst [2, t, 1]) s j hj)
  have hsx10 := Heap.start x10
  have hbx_x10 := hbxq8.up hcx10
  have h4_x10 := h4q8.up hcx10
  have h5_x10 := h5q8.stay hcx10
  have h6_x10 := h6.up hcx10
  refine gsC 2 [.det (.int .u8 t), .any (isC x10.heap.size [] (lst [2, t, 1]) 3)] [0, 1] [0, 1] (fun L _ => [pt b 0, .int .u8 t, undef, undef, L0.p 0, vx3, L5.p 1, undef, .slice (some ⟨w1.heap.size, 0, none⟩) 0 0, pt b 0, pt b 0, pt b 0, .slice (some ⟨b, 0, none⟩) 32 32, vx3, .slice (some ⟨w3.heap.size, 0, none⟩) 0 0, vx3, vx6, .int .u8 t, (L4.v 1), vx7, VB (askH s t 0) 32, .slice (some ⟨w6.heap.size, 0, none⟩) 0 0, vx3, vx10, .int .u8 t, L.v 1] ++ U 18) (fun L => []) hsx10 ⟨
    oM, oYC (n := 3) (f := (lst [2, t, 1])) (bs := []) (by decide) (by decide),
    trivial⟩ (fun L7 _ w8 hp8 ha8 => ?_)
  refine oneL rfl rfl (wp_appendA (.tmp 23) (.tmp 25) rfl (v := vx10) (u := (L7.v 1)) (by kernel_rfl) (hrx10.below hp8.bel) (by kernel_rfl) (AnyF.at (ha8 (by kernel_rfl)) (j := 1) rfl rfl).a (by omega) (hcx10.trans (hp8.bel.mono hcx10.size)).size (fun vx11 x11 hox11 hbx11 => ?_))
  have hcx11 := (hcx10.trans (hp8.bel.mono hcx10.size)).trans hbx11
  have hrx11 := OwnY.to hox11 rfl (fun j _ => cat_same s (lst [2, t, 1]) j)
  have hsx11 := Heap.start x11
  have hbx_x11 := hbxq8.up hcx11
  have h4_x11 := h4q8.up hcx11
  have h5_x11 := h5q8.stay hcx11
  have h6_x11 := h6.up hcx11
  have hAx11 := (hrx11).a
  refine gsC 3 [.det (VB (askH s t 1) 32), .alloc (BC (fun _ => 0) 32), .store (.new 1) 0 (BC (askH s t 1) 32) (BC (askH s t 1) 32)] [0, 1, 2] [0, 1, 3] (fun L _ => [pt b 0, .int .u8 t, undef, undef, L0.p 0, vx3, L5.p 1, L.p 1, .slice (some ⟨w1.heap.size, 0, none⟩) 0 0, pt b 0, pt b 0, pt b 0, .slice (some ⟨b, 0, none⟩) 32 32, vx3, .slice (some ⟨w3.heap.size, 0, none⟩) 0 0, vx3, vx6, .int .u8 t, (L4.v 1), vx7, VB (askH s t 0) 32, .slice (some ⟨w6.heap.size, 0, none⟩) 0 0, vx3, vx10, .int .u8 t, (L7.v 1), vx11, VB (askH s t 1) 32] ++ U 16) (fun L => [(L.b 1, BC (askH s t 1) 32)]) hsx11 ⟨
    oH (v := VB (askH s t 1) 32) (vs := #[vx11]) (fun w hb _ => askD1 (hAx11.stay hb) hs0 ht), oZ rB32, oT rB32,
    trivial⟩ (fun L8 _ w9 hp9 ha9 => ?_)
  refine wpList_nil ?_
  have ge7 := Nat.le_trans hcx11.size (hp9.bound 0 rfl).1
  have haq12 := (hcx11.trans (hp9.bel.mono hcx11.size))
  have hbxq12 := hbxq8.up haq12
  have h4q12 := h4q8.up haq12
  have h5q12 := h5q8.stay haq12
  have h6q12 := h6.up haq12
  have h7 := (hp9.bound 0 rfl).2
  have hallq12 := hallq8.trans (haq12.mono hallq8.size)
  have hsq12 := Heap.start w9
  have q67 : (L5.b 1) < (L8.b 1) := Nat.lt_of_lt_of_le h6.lt ge7
  refine k4 _ _ ?_
  refine wp_seq_k (fun K5 k5 => ?_)
  refine wp_region_list ?_
  refine gsC 1 [.det (pt b 0)] [0] [0] (fun L _ => [pt b 0, .int .u8 t, undef, undef, L0.p 0, vx3, L5.p 1, L8.p 1, .slice (some ⟨w1.heap.size, 0, none⟩) 0 0, pt b 0, pt b 0, pt b 0, .slice (some ⟨b, 0, none⟩) 32 32, vx3, .slice (some ⟨w3.heap.size, 0, none⟩) 0 0, vx3, vx6, .int .u8 t, (L4.v 1), vx7, VB (askH s t 0) 32, .slice (some ⟨w6.heap.size, 0, none⟩) 0 0, vx3, vx10, .int .u8 t, (L7.v 1), vx11, VB (askH s t 1) 32, pt b 0] ++ U 15) (fun L => []) hsq12 ⟨
    oM,
    trivial⟩ (fun L9 _ w10 hp10 ha10 => ?_)
  refine oneL rfl rfl (wp_emptyY (f := (cat s 32 (lst [3, t]))) rfl (fun x13 hox13 hbx13 => ?_))
  have hcx13 := ((Below.refl w9.heap.size w9).trans (hp10.bel.mono (Below.refl w9.heap.size w9).size)).trans (hbx13.mono ((Below.refl w9.heap.size w9).trans (hp10.bel.mono (Below.refl w9.heap.size w9).size)).size)
  have hrx13 := OwnY.base hox13 ((Below.refl w9.heap.size w9).trans (hp10.bel.mono (Below.refl w9.heap.size w9).size)).size
  have hsx13 := Heap.start x13
  have hbx_x13 := hbxq12.up hcx13
  have h4_x13 := h4q12.up hcx13
  have h5_x13 := h5q12.stay hcx13
  have h6_x13 := h6q12.up hcx13
  have h7_x13 := h7.up hcx13
  refine gsC 1 [.det (vx3)] [0] [0] (fun L _ => [pt b 0, .int .u8 t, undef, undef, L0.p 0, vx3, L5.p 1, L8.p 1, .slice (some ⟨w1.heap.size, 0, none⟩) 0 0, pt b 0, pt b 0, pt b 0, .slice (some ⟨b, 0, none⟩) 32 32, vx3, .slice (some ⟨w3.heap.size, 0, none⟩) 0 0, vx3, vx6, .int .u8 t, (L4.v 1), vx7, VB (askH s t 0) 32, .slice (some ⟨w6.heap.size, 0, none⟩) 0 0, vx3, vx10, .int .u8 t, (L7.v 1), vx11, VB (askH s t 1) 32, pt b 0, .slice (some ⟨w10.heap.size, 0, none⟩) 0 0, vx3] ++ U 13) (fun L => []) hsx13 ⟨
    oM,
    trivial⟩ (fun L10 _ w11 hp11 ha11 => ?_)
  refine oneL rfl rfl (wp_appendA (.tmp 29) (.tmp 30) rfl (v := .slice (some ⟨w10.heap.size, 0, none⟩) 0 0) (u := vx3) (by kernel_rfl) (hrx13.below hp11.bel) (by kernel_rfl) (h5_x13.stay hp11.bel) (by omega) (hcx13.trans (hp11.bel.mono hcx13.size)).size (fun vx14 x14 hox14 hbx14 => ?_))
  have hcx14 := (hcx13.trans (hp11.bel.mono hcx13.size)).trans hbx14
  have hrx14 := OwnY.to hox14 (Nat.zero_add 32) (fun j hj => cat_nil (cat s 32 (lst [3, t])) (lst [3, t]) s j hj)
  have hsx14 := Heap.start x14
  have hbx_x14 := hbxq12.up hcx14
  have h4_x14 := h4q12.up hcx14
  have h5_x14 := h5q12.stay hcx14
  have h6_x14 := h6q12.up hcx14
  have h7_x14 := h7.up hcx14
  refine gsC 2 [.det (.int .u8 t), .any (isC x14.heap.size [] (lst [3, t]) 2)] [0, 1] [0, 1] (fun L _ => [pt b 0, .int .u8 t, undef, undef, L0.p 0, vx3, L5.p 1, L8.p 1, .slice (some ⟨w1.heap.size, 0, none⟩) 0 0, pt b 0, pt b 0, pt b 0, .slice (some ⟨b, 0, none⟩) 32 32, vx3, .slice (some ⟨w3.heap.size, 0, none⟩) 0 0, vx3, vx6, .int .u8 t, (L4.v 1), vx7, VB (askH s t 0) 32, .slice (some ⟨w6.heap.size, 0, none⟩) 0 0, vx3, vx10, .int .u8 t, (L7.v 1), vx11, VB (askH s t 1) 32, pt b 0, .slice (some ⟨w10.heap.size, 0, none⟩) 0 0, vx3, vx14, .int .u8 t, L.v 1] ++ U 10) (fun L => []) hsx14 ⟨
    oM, oYC (n := 2) (f := (lst [3, t])) (bs := []) (by decide) (by decide),
    trivial⟩ (fun L11 _ w12 hp12 ha12 => ?_)
  refine oneL rfl rfl (wp_appendA (.tmp 31) (.tmp 33) rfl (v := vx14) (u := (L11.v 1)) (by kernel_rfl) (hrx14.below hp12.bel) (by kernel_rfl) (AnyF.at (ha12 (by kernel_rfl)) (j := 1) rfl rfl).a (by omega) (hcx14.trans (hp12.bel.mono hcx14.size)).size (fun vx15 x15 hox15 hbx15 => ?_))
  have hcx15 := (hcx14.trans (hp12.bel.mono hcx14.size)).trans hbx15
  have hrx15 := OwnY.to hox15 rfl (fun j _ => cat_same s (lst [3, t]) j)
  have hsx15 := Heap.start x15
  have hbx_x15 := hbxq12.up hcx15
  have h4_x15 := h4q12.up hcx15
  have h5_x15 := h5q12.stay hcx15
  have h6_x15 := h6q12.up hcx15
  have h7_x15 := h7.up hcx15
  have hAx15 := (hrx15).a
  refine gsC 3 [.det (VB (askS s t) 32), .det (pt b 0), .det (pt b 0)] [0, 1, 2] [0, 1, 3] (fun L _ => [pt b 0, .int .u8 t, undef, undef, L0.p 0, vx3, L5.p 1, L8.p 1, .slice (some ⟨w1.heap.size, 0, none⟩) 0 0, pt b 0, pt b 0, pt b 0, .slice (some ⟨b, 0, none⟩) 32 32, vx3, .slice (some ⟨w3.heap.size, 0, none⟩) 0 0, vx3, vx6, .int .u8 t, (L4.v 1), vx7, VB (askH s t 0) 32, .slice (some ⟨w6.heap.size, 0, none⟩) 0 0, vx3, vx10, .int .u8 t, (L7.v 1), vx11, VB (askH s t 1) 32, pt b 0, .slice (some ⟨w10.heap.size, 0, none⟩) 0 0, vx3, vx14, .int .u8 t, (L11.v 1), vx15, VB (askS s t) 32, pt b 0, pt b 0] ++ U 6) (fun L => []) hsx15 ⟨
    oH (v := VB (askS s t) 32) (vs := #[vx15]) (fun w hb _ => askDS (hAx15.stay hb) hs0 ht), oNC, oF fTr0,
    trivial⟩ (fun L12 _ w13 hp13 ha13 => ?_)
  have hBs := (hallq12.trans ((hcx15.trans (hp13.bel.mono hcx15.size)).mono hallq12.size))
  refine oneL rfl rfl (wp_store32 (.tmp 37) (.tmp 35) rfl (b := b) (f := s) (g := askS s t) (by kernel_rfl) (by kernel_rfl) (hbx_x15.up hp13.bel) rfl (fun y hwy hxy => ?_))
  refine wpList_nil ?_
  have hblt := hbx.lt
  have h4o := (h4_x15.up hp13.bel)
  have h6o := (h6_x15.up hp13.bel)
  have h7o := (h7_x15.up hp13.bel)
  have l4 := h4.lt
  have l6 := h6.lt
  refine k5 _ _ ?_
  refine wp_seq_k (fun K6 k6 => ?_)
  have hle := hBs.size
  have hp4 := Heap.one (Below.refl w.heap.size y) ge4 (by rw [hwy.size]; exact hle) (h4o.wr hwy (by omega))
  have hp6 := Heap.add hp4 (Nat.le_trans ge4 (Nat.le_of_lt q46)) (fun b hb => by simp only [List.map_cons, List.map_nil, List.mem_singleton] at hb; subst hb; exact q46) (h6o.wr hwy (by omega))
  have hpy := Heap.add hp6 (Nat.le_trans ge4 (Nat.le_of_lt (Nat.lt_trans q46 q67))) (fun b hb => by simp only [List.map_cons, List.map_nil, List.cons_append, List.nil_append, List.mem_cons, List.not_mem_nil, or_false] at hb; rcases hb with rfl | rfl; exact Nat.lt_trans q46 q67; exact q67) (h7o.wr hwy (by omega))
  refine dT 4 [.any isE, .det (.slice (some ⟨(L5.b 1), 0, none⟩) 32 32), .any (isO w.heap.size [L0.b 0, L5.b 1, L8.b 1] (askH s t 0) 32), .det (.slice (some ⟨(L8.b 1), 0, none⟩) 32 32), .any (fun _ _ => True), .det (RV (askN s t)), .det undef] [0, 1, 2, 3] [0, 0, 3, 0, 15, 31, 63] (fun L => [pt b 0, .int .u8 t, undef, undef, L0.p 0, vx3, L5.p 1, L8.p 1, .slice (some ⟨w1.heap.size, 0, none⟩) 0 0, pt b 0, pt b 0, pt b 0, .slice (some ⟨b, 0, none⟩) 32 32, vx3, .slice (some ⟨w3.heap.size, 0, none⟩) 0 0, vx3, vx6, .int .u8 t, (L4.v 1), vx7, VB (askH s t 0) 32, .slice (some ⟨w6.heap.size, 0, none⟩) 0 0, vx3, vx10, .int .u8 t, (L7.v 1), vx11, VB (askH s t 1) 32, pt b 0, .slice (some ⟨w10.heap.size, 0, none⟩) 0 0, vx3, vx14, .int .u8 t, (L11.v 1), vx15, VB (askS s t) 32, pt b 0, pt b 0, L.v 0, .slice (some ⟨(L5.b 1), 0, none⟩) 32 32, L.v 2, .slice (some ⟨(L8.b 1), 0, none⟩) 32 32, undef, undef]) hpy ⟨
      oE0, oSA (sz := 1) Try.underlying38 sizeY (by decide), oApOB (n := 32) (c := 32) [L0.b 0, L5.b 1, L8.b 1] 0 1 (by decide) (by decide), oSA (sz := 1) Try.underlying38 sizeY (by decide), trivial⟩ (fun L13 wT hpT haT => ?_)
  obtain ⟨kT, hk1, hk2, hk3, hoT⟩ := haT 2 _ (by decide) rfl
  refine tail3 (by kernel_rfl) (wpOp_of rfl rfl (wp_appendA (.tmp 40) (.tmp 41) rfl (v := (L13.v 2)) (u := .slice (some ⟨(L8.b 1), 0, none⟩) 32 32) (by kernel_rfl) hoT (by kernel_rfl) (boxA (hpT.bound 2 rfl).2 32 (Nat.le_refl _)) (by decide) hk2 (fun v4 x4 ho4 hb4 => ?_)))
  have hp4x := Heap.under hpT hk1 hb4 hk3
  refine wpOp_of rfl rfl (wp_callG (vs := #[v4]) (R := fun v x => v = RV (askN s t) ∧ Below x4.heap.size x4 x) (Calls.mono (askWideR (OwnY.a ho4)) (fun e x ⟨h1, h2⟩ => ⟨_, h1, rfl, h2⟩)) (fun v5 x5 ⟨hv5, hb5⟩ => ?_))
  subst hv5
  have hp5x := Heap.later hp4x hb5
  refine wpOp_of rfl rfl (wp_storeR (.tmp 4) (.tmp 43) rfl (b := (L0.b 0)) (m := 0) (n := askN s t) (by kernel_rfl) (by kernel_rfl) (hp5x.bound 0 rfl).2 rfl (fun z hwz hxz => ?_))
  have hyz := hp5x.bel.trans (hwz.below ge4)
  have hpz := Heap.one (Below.refl w.heap.size z) ge4 (Nat.le_trans (by rw [hwy.size]; exact hle) hyz.size) hxz
  refine k6 _ _ ?_
  refine wp_ret ?_
  refine bodyPost_ret (v := RV (askN s t)) ?_ rfl ?_
  · exact rc rR rfl (by kernel_rfl) (hpz.bound 0 rfl).2
  · exact ⟨rfl, Chg.of' hBs hwy hyz rfl, hxy.keep hyz.size (hyz.block b hbx.lt)⟩
end Go.Proofs.Ytccidmogamnihaa.fpn
