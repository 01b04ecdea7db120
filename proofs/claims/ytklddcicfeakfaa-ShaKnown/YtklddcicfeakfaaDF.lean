/- The reference's roots. -/
import Derived.Test.YtklddcicfeakfaaDE
import Derived.Deep.LoopGhost
namespace Go.Proofs.Ytklddcicfeakfaa.fpn
open Go.RowKit Pl
set_option linter.unusedVariables false
set_option linter.unusedSimpArgs false
set_option maxRecDepth 4000

set_option maxHeartbeats 4000000 in
theorem refFits0 (v n hi lo : Nat) (w : World) (hv : v < 1099511627776) (hn : n < 65536) (hV : v * v = hi * 18446744073709551616 + lo) (hl : lo < 18446744073709551616) : Calls Try.prog 28 #[.int .u64 ((v : Nat) : Int), .int .u64 ((n : Nat) : Int), .bool false] w (Ret (.bool (decide (v * v ≤ n * 18446744073709551616))) w) := by
  have fin0 : (decide (hi < n)) = true → Ending.returned (.bool true) = Ending.returned (.bool (decide (v * v ≤ n * 18446744073709551616))) := by subst_vars; intro h1q; have g0 := of_decide_eq_true h1q; exact congrArg (fun b => Ending.returned (Value.bool b)) (decide_eq_true (by omega)).symm
  have fin1 : (decide (hi < n)) = false → (decide (hi = n)) = true → Ending.returned (.bool (decide (lo = 0))) = Ending.returned (.bool (decide (v * v ≤ n * 18446744073709551616))) := by subst_vars; intro h1q h2q; have g0 := of_decide_eq_false h1q; have g1 := of_decide_eq_true h2q; exact congrArg (fun b => Ending.returned (Value.bool b)) (decide_eq_decide.2 (by omega))
  have fin2 : (decide (hi < n)) = false → (decide (hi = n)) = false → Ending.returned (.bool false) = Ending.returned (.bool (decide (v * v ≤ n * 18446744073709551616))) := by subst_vars; intro h1q h2q; have g0 := of_decide_eq_false h1q; have g1 := of_decide_eq_false h2q; exact congrArg (fun b => Ending.returned (Value.bool b)) (decide_eq_false (by omega)).symm
  have hp0 := Heap.start w
  go_enter Try.func28, Try.ntmps28
  refine wp_seq_k (fun K1 k1 => ?_)
  refine gsD [.det (.bool false)] [0] [0] (fun L d => [.int .u64 ((v : Nat) : Int), .int .u64 ((n : Nat) : Int), .bool false] ++ D d 3 77) (fun L => []) hp0 ⟨
    oA,
    trivial⟩ (fun L0 d0 w1 hp1 => ?_)
  refine k1 _ _ ?_
  refine wp_seq_k (fun K2 k2 => ?_)
  refine gsD [.det (.int .u64 ((v : Nat) : Int)), .det (.int .u64 ((v : Nat) : Int)), .det (.tuple #[.int .u64 ((hi : Nat) : Int), .int .u64 ((lo : Nat) : Int)]), .det (.tuple #[.int .u64 ((hi : Nat) : Int), .int .u64 ((lo : Nat) : Int)]), .det (.int .u64 ((hi : Nat) : Int)), .det (.int .u64 ((lo : Nat) : Int)), .det (.int .u64 ((hi : Nat) : Int)), .det (.int .u64 ((lo : Nat) : Int))] [0, 1, 2, 3, 4, 5, 6, 7] [0, 0, 3, 7, 15, 15, 31, 127] (fun L d => [d 0, .int .u64 ((n : Nat) : Int), .bool false] ++ (D d 3 4 ++ ([.int .u64 ((hi : Nat) : Int), .int .u64 ((lo : Nat) : Int)] ++ D d 9 71))) (fun L => []) hp1 ⟨
    oM, oM, oH (v := .tuple #[.int .u64 ((hi : Nat) : Int), .int .u64 ((lo : Nat) : Int)]) (vs := #[.int .u64 ((v : Nat) : Int), .int .u64 ((v : Nat) : Int)]) (fun w _ _ => by have h := refMul64 v v (by omega) (by omega) w; rw [show v * v / 18446744073709551616 = hi by omega, show v * v % 18446744073709551616 = lo by omega] at h; exact h),
    oM, oX, oX, oA, oA,
    trivial⟩ (fun L1 d1 w2 hp2 => ?_)
  refine k2 _ _ ?_
  refine wp_seq_k (fun K3 k3 => ?_)
  refine wp_seq_k (fun K4 k4 => ?_)
  refine gsD [.det (.bool false), .det (.bool true)] [0, 1] [0, 1] (fun L d => [d 0, .int .u64 ((n : Nat) : Int)] ++ (D d 2 5 ++ ([.int .u64 ((hi : Nat) : Int), .int .u64 ((lo : Nat) : Int)] ++ (D d 9 15 ++ ([.bool true] ++ D d 25 55))))) (fun L => []) hp2 ⟨
    oM, oN,
    trivial⟩ (fun L2 d2 w3 hp3 => ?_)
  refine k4 _ _ ?_
  refine wp_cond_true (by kernel_rfl) ?_
  refine wp_seq_k (fun K5 k5 => ?_)
  rcases Bool.eq_false_or_eq_true (decide (hi < n)) with h1q | h1q
  · skip
    refine gsD [.det (.int .u64 ((hi : Nat) : Int)), .det (.int .u64 ((n : Nat) : Int)), .det (.bool (decide (hi < n))), .det (.bool true), .det undef, .det undef, .det undef, .det undef, .det undef, .det undef, .det undef, .det (.bool true), .det (.bool true)] [0, 1, 2, 3, 4, 5, 6, 7, 8, 9, 10, 11, 12] [0, 0, 3, 7, 15, 15, 63, 127, 255, 511, 1023, 2047, 4095] (fun L d => D d 0 6 ++ ([.bool true] ++ D d 7 73)) (fun L => []) hp3 ⟨
      oM, oM, oJ .u64 .u64 ((hi : Nat) : Int) ((n : Nat) : Int) (h := fun w => lssU _ (hi) (n) w), oMB h1q, oS, oS, oS, oS, oS, oS, oS, oP, oA,
      trivial⟩ (fun L3 d3 w4 hp4 => ?_)
    refine k5 _ _ ?_
    refine wp_ret ?_
    refine bodyPost_ret (v := .bool true) ?_ rfl ?_
    · exact res_t rfl (by kernel_rfl) _
    · exact ⟨fin0 h1q, hp4.bel⟩
  · skip
    rcases Bool.eq_false_or_eq_true (decide (hi = n)) with h2q | h2q
    · skip
      refine gsD [.det (.int .u64 ((hi : Nat) : Int)), .det (.int .u64 ((n : Nat) : Int)), .det (.bool (decide (hi < n))), .det (.bool false), .det (.int .u64 ((hi : Nat) : Int)), .det (.int .u64 ((n : Nat) : Int)), .det (.bool (decide (hi = n))), .det (.bool true), .det (.int .u64 ((lo : Nat) : Int)), .det (.bool (decide (lo = 0))), .det (.bool (decide (lo = 0))), .det (.bool (decide (lo = 0))), .det (.bool (decide (lo = 0)))] [0, 1, 2, 3, 4, 5, 6, 7, 8, 9, 10, 11, 12] [0, 0, 3, 7, 15, 15, 63, 127, 255, 511, 1023, 2047, 4095] (fun L d => D d 0 6 ++ ([.bool (decide (lo = 0))] ++ D d 7 73)) (fun L => []) hp3 ⟨
        oM, oM, oJ .u64 .u64 ((hi : Nat) : Int) ((n : Nat) : Int) (h := fun w => lssU _ (hi) (n) w), oMB h1q, oM, oM, oJ .u64 .u64 ((hi : Nat) : Int) ((n : Nat) : Int) (h := fun w => eqlU _ (hi) (n) w),
        oMB h2q, oM, oJ .u64 .u64 ((lo : Nat) : Int) 0 (h := fun w => eqlU _ (lo) 0 w), oP, oP, oA,
        trivial⟩ (fun L3 d3 w4 hp4 => ?_)
      refine k5 _ _ ?_
      refine wp_ret ?_
      refine bodyPost_ret (v := .bool (decide (lo = 0))) ?_ rfl ?_
      · exact res_t rfl (by kernel_rfl) _
      · exact ⟨fin1 h1q h2q, hp4.bel⟩
    · skip
      refine gsD [.det (.int .u64 ((hi : Nat) : Int)), .det (.int .u64 ((n : Nat) : Int)), .det (.bool (decide (hi < n))), .det (.bool false), .det (.int .u64 ((hi : Nat) : Int)), .det (.int .u64 ((n : Nat) : Int)), .det (.bool (decide (hi = n))), .det (.bool false), .det undef, .det undef, .det (.bool false), .det (.bool false), .det (.bool false)] [0, 1, 2, 3, 4, 5, 6, 7, 8, 9, 10, 11, 12] [0, 0, 3, 7, 15, 15, 63, 127, 255, 511, 1023, 2047, 4095] (fun L d => D d 0 6 ++ ([.bool false] ++ D d 7 73)) (fun L => []) hp3 ⟨
        oM, oM, oJ .u64 .u64 ((hi : Nat) : Int) ((n : Nat) : Int) (h := fun w => lssU _ (hi) (n) w), oMB h1q, oM, oM, oJ .u64 .u64 ((hi : Nat) : Int) ((n : Nat) : Int) (h := fun w => eqlU _ (hi) (n) w),
        oMB h2q, oS, oS, oP, oP, oA,
        trivial⟩ (fun L3 d3 w4 hp4 => ?_)
      refine k5 _ _ ?_
      refine wp_ret ?_
      refine bodyPost_ret (v := .bool false) ?_ rfl ?_
      · exact res_t rfl (by kernel_rfl) _
      · exact ⟨fin2 h1q h2q, hp4.bel⟩
set_option maxHeartbeats 4000000 in
theorem refFits1 (v n hi lo : Nat) (a b c X : Nat) (w : World) (hv : v < 1099511627776) (hn : n < 65536) (hV : v * v = hi * 18446744073709551616 + lo) (hl : lo < 18446744073709551616) (hh : hi < 65536) (hA : lo * v = a * 18446744073709551616 + b) (hb : b < 18446744073709551616) (hC : hi * v = c) (hc : c < 1152921504606846976) (ha : a < 1152921504606846976) (hX : X = (c + a) * 18446744073709551616 + b) : Calls Try.prog 28 #[.int .u64 ((v : Nat) : Int), .int .u64 ((n : Nat) : Int), .bool true] w (Ret (.bool (decide (X ≤ n * 79228162514264337593543950336))) w) := by
  have fin0 : (decide (a + c < n * 2 ^ 32)) = true → Ending.returned (.bool true) = Ending.returned (.bool (decide (X ≤ n * 79228162514264337593543950336))) := by subst_vars; intro h1q; have g0 := of_decide_eq_true h1q; exact congrArg (fun b => Ending.returned (Value.bool b)) (decide_eq_true (by omega)).symm
  have fin1 : (decide (a + c < n * 2 ^ 32)) = false → (decide (a + c = n * 2 ^ 32)) = true → Ending.returned (.bool (decide (b = 0))) = Ending.returned (.bool (decide (X ≤ n * 79228162514264337593543950336))) := by subst_vars; intro h1q h2q; have g0 := of_decide_eq_false h1q; have g1 := of_decide_eq_true h2q; exact congrArg (fun b => Ending.returned (Value.bool b)) (decide_eq_decide.2 (by omega))
  have fin2 : (decide (a + c < n * 2 ^ 32)) = false → (decide (a + c = n * 2 ^ 32)) = false → Ending.returned (.bool false) = Ending.returned (.bool (decide (X ≤ n * 79228162514264337593543950336))) := by subst_vars; intro h1q h2q; have g0 := of_decide_eq_false h1q; have g1 := of_decide_eq_false h2q; exact congrArg (fun b => Ending.returned (Value.bool b)) (decide_eq_false (by omega)).symm
  have hp0 := Heap.start w
  go_enter Try.func28, Try.ntmps28
  refine wp_seq_k (fun K1 k1 => ?_)
  refine gsD [.det (.bool false)] [0] [0] (fun L d => [.int .u64 ((v : Nat) : Int), .int .u64 ((n : Nat) : Int), .bool true] ++ D d 3 77) (fun L => []) hp0 ⟨
    oA,
    trivial⟩ (fun L0 d0 w1 hp1 => ?_)
  refine k1 _ _ ?_
  refine wp_seq_k (fun K2 k2 => ?_)
  refine gsD [.det (.int .u64 ((v : Nat) : Int)), .det (.int .u64 ((v : Nat) : Int)), .det (.tuple #[.int .u64 ((hi : Nat) : Int), .int .u64 ((lo : Nat) : Int)]), .det (.tuple #[.int .u64 ((hi : Nat) : Int), .int .u64 ((lo : Nat) : Int)]), .det (.int .u64 ((hi : Nat) : Int)), .det (.int .u64 ((lo : Nat) : Int)), .det (.int .u64 ((hi : Nat) : Int)), .det (.int .u64 ((lo : Nat) : Int))] [0, 1, 2, 3, 4, 5, 6, 7] [0, 0, 3, 7, 15, 15, 31, 127] (fun L d => [.int .u64 ((v : Nat) : Int), .int .u64 ((n : Nat) : Int), .bool true] ++ (D d 3 4 ++ ([.int .u64 ((hi : Nat) : Int), .int .u64 ((lo : Nat) : Int)] ++ D d 9 71))) (fun L => []) hp1 ⟨
    oM, oM, oH (v := .tuple #[.int .u64 ((hi : Nat) : Int), .int .u64 ((lo : Nat) : Int)]) (vs := #[.int .u64 ((v : Nat) : Int), .int .u64 ((v : Nat) : Int)]) (fun w _ _ => by have h := refMul64 v v (by omega) (by omega) w; rw [show v * v / 18446744073709551616 = hi by omega, show v * v % 18446744073709551616 = lo by omega] at h; exact h),
    oM, oX, oX, oA, oA,
    trivial⟩ (fun L1 d1 w2 hp2 => ?_)
  refine k2 _ _ ?_
  refine wp_seq_k (fun K3 k3 => ?_)
  refine wp_seq_k (fun K4 k4 => ?_)
  refine gsD [.det (.bool true), .det (.bool false)] [0, 1] [0, 1] (fun L d => [.int .u64 ((v : Nat) : Int), .int .u64 ((n : Nat) : Int)] ++ (D d 2 5 ++ ([.int .u64 ((hi : Nat) : Int), .int .u64 ((lo : Nat) : Int)] ++ (D d 9 15 ++ ([.bool false] ++ D d 25 55))))) (fun L => []) hp2 ⟨
    oM, oN,
    trivial⟩ (fun L2 d2 w3 hp3 => ?_)
  refine k4 _ _ ?_
  refine wp_cond_false (by kernel_rfl) ?_
  refine skips ?_
  refine k3 _ _ ?_
  refine wp_seq_k (fun K5 k5 => ?_)
  refine gsD [.det (.int .u64 ((lo : Nat) : Int)), .det (.int .u64 ((v : Nat) : Int)), .det (.tuple #[.int .u64 ((a : Nat) : Int), .int .u64 ((b : Nat) : Int)]), .det (.tuple #[.int .u64 ((a : Nat) : Int), .int .u64 ((b : Nat) : Int)]), .det (.int .u64 ((a : Nat) : Int)), .det (.int .u64 ((b : Nat) : Int)), .det (.int .u64 ((a : Nat) : Int)), .det (.int .u64 ((b : Nat) : Int))] [0, 1, 2, 3, 4, 5, 6, 7] [0, 0, 3, 7, 15, 15, 31, 127] (fun L d => [.int .u64 ((v : Nat) : Int), .int .u64 ((n : Nat) : Int)] ++ (D d 2 5 ++ ([.int .u64 ((hi : Nat) : Int), d 8, .int .u64 ((a : Nat) : Int), .int .u64 ((b : Nat) : Int)] ++ D d 11 69))) (fun L => []) hp3 ⟨
    oM, oM, oH (v := .tuple #[.int .u64 ((a : Nat) : Int), .int .u64 ((b : Nat) : Int)]) (vs := #[.int .u64 ((lo : Nat) : Int), .int .u64 ((v : Nat) : Int)]) (fun w _ _ => by have h := refMul64 lo v (by omega) (by omega) w; rw [show lo * v / 18446744073709551616 = a by omega, show lo * v % 18446744073709551616 = b by omega] at h; exact h),
    oM, oX, oX, oA, oA,
    trivial⟩ (fun L3 d3 w4 hp4 => ?_)
  refine k5 _ _ ?_
  refine wp_seq_k (fun K6 k6 => ?_)
  refine gsD [.det (.int .u64 ((hi : Nat) : Int)), .det (.int .u64 ((v : Nat) : Int)), .det (.tuple #[.int .u64 0, .int .u64 ((c : Nat) : Int)]), .det (.tuple #[.int .u64 0, .int .u64 ((c : Nat) : Int)]), .det (.int .u64 0), .det (.int .u64 ((c : Nat) : Int)), .det (.int .u64 0), .det (.int .u64 ((c : Nat) : Int))] [0, 1, 2, 3, 4, 5, 6, 7] [0, 0, 3, 7, 15, 15, 31, 127] (fun L d => [.int .u64 ((v : Nat) : Int), .int .u64 ((n : Nat) : Int)] ++ (D d 2 5 ++ ([.int .u64 ((hi : Nat) : Int), d 8, .int .u64 ((a : Nat) : Int), .int .u64 ((b : Nat) : Int), d 11, .int .u64 ((c : Nat) : Int)] ++ D d 13 67))) (fun L => []) hp4 ⟨
    oM, oM, oH (v := .tuple #[.int .u64 0, .int .u64 ((c : Nat) : Int)]) (vs := #[.int .u64 ((hi : Nat) : Int), .int .u64 ((v : Nat) : Int)]) (fun w _ _ => by have h := refMul64 hi v (by omega) (by omega) w; rw [show hi * v / 18446744073709551616 = 0 by omega, show hi * v % 18446744073709551616 = c by omega] at h; exact h),
    oM, oX, oX, oA, oA,
    trivial⟩ (fun L4 d4 w5 hp5 => ?_)
  refine k6 _ _ ?_
  refine wp_seq_k (fun K7 k7 => ?_)
  refine gsD [.det (.int .u64 ((a : Nat) : Int)), .det (.int .u64 ((c : Nat) : Int)), .det (.tuple #[.int .u64 ((a + c : Nat) : Int), .int .u64 0]), .det (.tuple #[.int .u64 ((a + c : Nat) : Int), .int .u64 0]), .det (.int .u64 ((a + c : Nat) : Int)), .det (.int .u64 0), .det (.int .u64 ((a + c : Nat) : Int)), .det (.int .u64 0)] [0, 1, 2, 3, 4, 5, 6, 7] [0, 0, 3, 7, 15, 15, 31, 127] (fun L d => [.int .u64 ((v : Nat) : Int), .int .u64 ((n : Nat) : Int)] ++ (D d 2 5 ++ ([.int .u64 ((hi : Nat) : Int)] ++ (D d 8 2 ++ ([.int .u64 ((b : Nat) : Int)] ++ (D d 11 2 ++ ([.int .u64 ((a + c : Nat) : Int), .int .u64 0] ++ D d 15 65))))))) (fun L => []) hp5 ⟨
    oM, oM, oXC (v := .tuple #[.int .u64 ((a + c : Nat) : Int), .int .u64 0]) (vs := #[.int .u64 ((a : Nat) : Int), .int .u64 ((c : Nat) : Int), .int .u64 0]) (fun w => by have h := refAdd64 a c w; rw [show (a + c) % 18446744073709551616 = a + c by omega, show (a + c) / 18446744073709551616 = 0 by omega] at h; exact h),
    oM, oX, oX, oA, oA,
    trivial⟩ (fun L5 d5 w6 hp6 => ?_)
  refine k7 _ _ ?_
  refine wp_seq_k (fun K8 k8 => ?_)
  refine gsD [.det (.int .u64 ((hi : Nat) : Int)), .det (.int .u64 ((v : Nat) : Int)), .det (.tuple #[.int .u64 0, .int .u64 ((c : Nat) : Int)]), .det (.tuple #[.int .u64 0, .int .u64 ((c : Nat) : Int)]), .det (.int .u64 0), .det (.int .u64 ((c : Nat) : Int)), .det (.int .u64 0), .det (.int .u64 ((c : Nat) : Int))] [0, 1, 2, 3, 4, 5, 6, 7] [0, 0, 3, 7, 15, 15, 31, 127] (fun L d => [d 0, .int .u64 ((n : Nat) : Int)] ++ (D d 2 8 ++ ([.int .u64 ((b : Nat) : Int)] ++ (D d 11 2 ++ ([.int .u64 ((a + c : Nat) : Int), .int .u64 0, .int .u64 0] ++ D d 16 64))))) (fun L => []) hp6 ⟨
    oM, oM, oH (v := .tuple #[.int .u64 0, .int .u64 ((c : Nat) : Int)]) (vs := #[.int .u64 ((hi : Nat) : Int), .int .u64 ((v : Nat) : Int)]) (fun w _ _ => by have h := refMul64 hi v (by omega) (by omega) w; rw [show hi * v / 18446744073709551616 = 0 by omega, show hi * v % 18446744073709551616 = c by omega] at h; exact h),
    oM, oX, oX, oA, oA,
    trivial⟩ (fun L6 d6 w7 hp7 => ?_)
  refine k8 _ _ ?_
  refine wp_seq_k (fun K9 k9 => ?_)
  refine gsD [.det (.int .u64 0), .det (.int .u64 0), .det (.int .u64 0), .det (.int .u64 0)] [0, 1, 2, 3] [0, 0, 3, 7] (fun L d => [d 0, .int .u64 ((n : Nat) : Int)] ++ (D d 2 8 ++ ([.int .u64 ((b : Nat) : Int)] ++ (D d 11 2 ++ ([.int .u64 ((a + c : Nat) : Int), d 14, .int .u64 0] ++ D d 16 64))))) (fun L => []) hp7 ⟨
    oM, oM, oJ .u64 .u64 0 0, oA,
    trivial⟩ (fun L7 d7 w8 hp8 => ?_)
  refine k9 _ _ ?_
  refine wp_seq_k (fun K10 k10 => ?_)
  refine wp_seq_k (fun K11 k11 => ?_)
  refine gsD [.det (.int .u64 0), .det (.bool false)] [0, 1] [0, 1] (fun L d => [d 0, .int .u64 ((n : Nat) : Int)] ++ (D d 2 8 ++ ([.int .u64 ((b : Nat) : Int)] ++ (D d 11 2 ++ ([.int .u64 ((a + c : Nat) : Int)] ++ (D d 14 51 ++ ([.bool false] ++ D d 66 14))))))) (fun L => []) hp8 ⟨
    oM, oJ .u64 .u64 0 0 (h := fun w => (neqI _ _ _ _ w).trans rfl),
    trivial⟩ (fun L8 d8 w9 hp9 => ?_)
  refine k11 _ _ ?_
  refine wp_cond_false (by kernel_rfl) ?_
  refine skips ?_
  refine k10 _ _ ?_
  refine wp_seq_k (fun K12 k12 => ?_)
  rcases Bool.eq_false_or_eq_true (decide (a + c < n * 2 ^ 32)) with h1q | h1q
  · skip
    refine gsD [.det (.int .u64 ((a + c : Nat) : Int)), .det (.int .u64 ((n : Nat) : Int)), .det (.int .u64 ((n * 2 ^ 32 : Nat) : Int)), .det (.bool (decide (a + c < n * 2 ^ 32))), .det (.bool true), .det undef, .det undef, .det undef, .det undef, .det undef, .det undef, .det undef, .det undef, .det (.bool true), .det (.bool true)] [0, 1, 2, 3, 4, 5, 6, 7, 8, 9, 10, 11, 12, 13, 14] [0, 0, 2, 7, 15, 31, 31, 95, 255, 511, 1023, 2047, 4095, 8191, 16383] (fun L d => D d 0 6 ++ ([.bool true] ++ D d 7 73)) (fun L => []) hp9 ⟨
      oM, oM, oJ .u64 .u64 ((n : Nat) : Int) 32 (h := fun w => shlU _ n 32 .u64 (by omega) (by decide) w), oJ .u64 .u64 ((a + c : Nat) : Int) ((n * 2 ^ 32 : Nat) : Int) (h := fun w => lssU _ (a + c) (n * 2 ^ 32) w),
      oMB h1q, oS, oS, oS, oS, oS, oS, oS, oS, oP, oA,
      trivial⟩ (fun L9 d9 w10 hp10 => ?_)
    refine k12 _ _ ?_
    refine wp_ret ?_
    refine bodyPost_ret (v := .bool true) ?_ rfl ?_
    · exact res_t rfl (by kernel_rfl) _
    · exact ⟨fin0 h1q, hp10.bel⟩
  · skip
    rcases Bool.eq_false_or_eq_true (decide (a + c = n * 2 ^ 32)) with h2q | h2q
    · skip
      refine gsD [.det (.int .u64 ((a + c : Nat) : Int)), .det (.int .u64 ((n : Nat) : Int)), .det (.int .u64 ((n * 2 ^ 32 : Nat) : Int)), .det (.bool (decide (a + c < n * 2 ^ 32))), .det (.bool false), .det (.int .u64 ((a + c : Nat) : Int)), .det (.int .u64 ((n : Nat) : Int)), .det (.int .u64 ((n * 2 ^ 32 : Nat) : Int)), .det (.bool (decide (a + c = n * 2 ^ 32))), .det (.bool true), .det (.int .u64 ((b : Nat) : Int)), .det (.bool (decide (b = 0))), .det (.bool (decide (b = 0))), .det (.bool (decide (b = 0))), .det (.bool (decide (b = 0)))] [0, 1, 2, 3, 4, 5, 6, 7, 8, 9, 10, 11, 12, 13, 14] [0, 0, 2, 7, 15, 31, 31, 95, 255, 511, 1023, 2047, 4095, 8191, 16383] (fun L d => D d 0 6 ++ ([.bool (decide (b = 0))] ++ D d 7 73)) (fun L => []) hp9 ⟨
        oM, oM, oJ .u64 .u64 ((n : Nat) : Int) 32 (h := fun w => shlU _ n 32 .u64 (by omega) (by decide) w), oJ .u64 .u64 ((a + c : Nat) : Int) ((n * 2 ^ 32 : Nat) : Int) (h := fun w => lssU _ (a + c) (n * 2 ^ 32) w),
        oMB h1q, oM, oM, oJ .u64 .u64 ((n : Nat) : Int) 32 (h := fun w => shlU _ n 32 .u64 (by omega) (by decide) w), oJ .u64 .u64 ((a + c : Nat) : Int) ((n * 2 ^ 32 : Nat) : Int) (h := fun w => eqlU _ (a + c) (n * 2 ^ 32) w),
        oMB h2q, oM, oJ .u64 .u64 ((b : Nat) : Int) 0 (h := fun w => eqlU _ (b) 0 w), oP, oP, oA,
        trivial⟩ (fun L9 d9 w10 hp10 => ?_)
      refine k12 _ _ ?_
      refine wp_ret ?_
      refine bodyPost_ret (v := .bool (decide (b = 0))) ?_ rfl ?_
      · exact res_t rfl (by kernel_rfl) _
      · exact ⟨fin1 h1q h2q, hp10.bel⟩
    · skip
      refine gsD [.det (.int .u64 ((a + c : Nat) : Int)), .det (.int .u64 ((n : Nat) : Int)), .det (.int .u64 ((n * 2 ^ 32 : Nat) : Int)), .det (.bool (decide (a + c < n * 2 ^ 32))), .det (.bool false), .det (.int .u64 ((a + c : Nat) : Int)), .det (.int .u64 ((n : Nat) : Int)), .det (.int .u64 ((n * 2 ^ 32 : Nat) : Int)), .det (.bool (decide (a + c = n * 2 ^ 32))), .det (.bool false), .det undef, .det undef, .det (.bool false), .det (.bool false), .det (.bool false)] [0, 1, 2, 3, 4, 5, 6, 7, 8, 9, 10, 11, 12, 13, 14] [0, 0, 2, 7, 15, 31, 31, 95, 255, 511, 1023, 2047, 4095, 8191, 16383] (fun L d => D d 0 6 ++ ([.bool false] ++ D d 7 73)) (fun L => []) hp9 ⟨
        oM, oM, oJ .u64 .u64 ((n : Nat) : Int) 32 (h := fun w => shlU _ n 32 .u64 (by omega) (by decide) w), oJ .u64 .u64 ((a + c : Nat) : Int) ((n * 2 ^ 32 : Nat) : Int) (h := fun w => lssU _ (a + c) (n * 2 ^ 32) w),
        oMB h1q, oM, oM, oJ .u64 .u64 ((n : Nat) : Int) 32 (h := fun w => shlU _ n 32 .u64 (by omega) (by decide) w), oJ .u64 .u64 ((a + c : Nat) : Int) ((n * 2 ^ 32 : Nat) : Int) (h := fun w => eqlU _ (a + c) (n * 2 ^ 32) w),
        oMB h2q, oS, oS, oP, oP, oA,
        trivial⟩ (fun L9 d9 w10 hp10 => ?_)
      refine k12 _ _ ?_
      refine wp_ret ?_
      refine bodyPost_ret (v := .bool false) ?_ rfl ?_
      · exact res_t rfl (by kernel_rfl) _
      · exact ⟨fin2 h1q h2q, hp10.bel⟩
theorem refFits (v n : Nat) (cube : Bool) (w : World) (hv : v < 1099511627776) (hn : n < 65536) : Calls Try.prog 28 #[.int .u64 ((v : Nat) : Int), .int .u64 ((n : Nat) : Int), .bool cube] w (Ret (.bool (fitsF v n cube)) w) := by
  have q : v * v < 1099511627776 * 1099511627776 := Nat.mul_lt_mul'' hv hv
  have hV : v * v = (v * v / 18446744073709551616) * 18446744073709551616 + v * v % 18446744073709551616 := by omega
  have hl : v * v % 18446744073709551616 < 18446744073709551616 := Nat.mod_lt _ (by decide)
  cases cube with
  | false => exact refFits0 v n _ _ w hv hn hV hl
  | true =>
    generalize hi' : v * v / 18446744073709551616 = hi at hV
    generalize lo' : v * v % 18446744073709551616 = lo at hV hl
    have hh : hi < 65536 := by omega
    have q1 : lo * v < 18446744073709551616 * 1099511627776 := Nat.mul_lt_mul'' hl hv
    have q2 : hi * v < 65536 * 1099511627776 := Nat.mul_lt_mul'' hh hv
    have hA : lo * v = (lo * v / 18446744073709551616) * 18446744073709551616 + lo * v % 18446744073709551616 := by omega
    have hX : v * v * v = (hi * v + lo * v / 18446744073709551616) * 18446744073709551616 + lo * v % 18446744073709551616 := by
      rw [hV, Nat.add_mul, Nat.add_mul, Nat.mul_right_comm]; omega
    exact refFits1 v n hi lo _ _ _ _ w hv hn hV hl hh hA (Nat.mod_lt _ (by decide)) rfl (by omega) (by omega) hX
/-- What the rounds of part keep. -/
def ptI (n : Nat) (cube : Bool) (w : World) : Nat → Act → World → Prop := fun L a' w' => ∃ (m : Nat) (d : Nat → Value),
  a' = { tmps := ([.int .u64 ((n : Nat) : Int), .bool cube] ++ (D d 2 3 ++ ([.int .u64 ((pts n cube m : Nat) : Int), .int .i64 (36 - (m : Int))] ++ D d 7 16)) : List Value).toArray, defers := [] } ∧ m + L = 37 ∧ Heap w.heap.size w w' []

theorem subI36 (t : TypeId) (m : Nat) (h : m < 1000) (w : World) : (binOp .sub t (.int .i64 (36 - (m : Int))) (.int .i64 1)).run Try.prog w = .ok (.int .i64 (36 - ((m + 1 : Nat) : Int))) w := by
  have e : IntKind.i64.wrap (36 - (m : Int) - 1) = 36 - ((m + 1 : Nat) : Int) := by unfold IntKind.wrap; simp [IntKind.bits, IntKind.signed]; omega
  simp only [binOp, Op.intArith, e]; simp [Sem.run_bind, e]
theorem convU (a : Nat) (w : World) : (convert 39 23 (.int .u64 (a : Int))).run Try.prog w = .ok (W32 (zx (a : Int))) w := by
  have e := wrap32_zx (a : Int)
  unfold W32
  simp [convert, run_underlying Try.underlying39, run_underlying Try.underlying23, Conv.intToInt, e, Sem.run_bind]
set_option maxHeartbeats 4000000 in
theorem refPart (n : Nat) (cube : Bool) (w : World) (hn : n < 65536) : Calls Try.prog 22 #[.int .u64 ((n : Nat) : Int), .bool cube] w (Ret (W32 (zx ((pts n cube 37 : Nat) : Int))) w) := by
  have hp0 := Heap.start w
  go_enter Try.func22, Try.ntmps22
  refine wp_seq_k (fun K1 k1 => ?_)
  refine gs [.det (.int .u32 0)] [0] [0] (fun L => [.int .u64 ((n : Nat) : Int), .bool cube, undef, undef, .int .u32 0] ++ U 18) (fun L => []) hp0 ⟨
    oA,
    trivial⟩ (fun L0 w1 hp1 => ?_)
  refine k1 _ _ ?_
  refine wp_seq_k (fun K2 k2 => ?_)
  refine gs [.det (.int .u64 0)] [0] [0] (fun L => [.int .u64 ((n : Nat) : Int), .bool cube, undef, undef, .int .u32 0, .int .u64 0] ++ U 17) (fun L => []) hp1 ⟨
    oA,
    trivial⟩ (fun L1 w2 hp2 => ?_)
  refine k2 _ _ ?_
  refine wp_seq_k (fun K3 k3 => ?_)
  refine wp_seq_k (fun K4 k4 => ?_)
  refine gs [.det (.int .i64 36)] [0] [0] (fun L => [.int .u64 ((n : Nat) : Int), .bool cube, undef, undef, .int .u32 0, .int .u64 0, .int .i64 36] ++ U 16) (fun L => []) hp2 ⟨
    oA,
    trivial⟩ (fun L2 w3 hp3 => ?_)
  refine k4 _ _ ?_
  refine wp_block_k (fun K5 k5 => ?_)
  refine wp_loop_ghost (ptI n cube w) 37 ⟨0, (fun zz => ([.int .u64 ((n : Nat) : Int), .bool cube, undef, undef, .int .u32 0, .int .u64 0, .int .i64 36] ++ U 16 : List Value).getD zz undef), by rw [pts_0]; kernel_rfl, Nat.zero_add _, hp3⟩ ?_
  rintro L a' W ⟨m, d, rfl, hL, hJ⟩
  by_cases hL0 : L = 0
  rotate_left
  · skip
    have hm : m < 37 := by omega
    have hp := pts_lt n cube m (by omega)
    have h2 : 2 ^ (37 - m) = 2 ^ (36 - m) + 2 ^ (36 - m) := by rw [show 37 - m = (36 - m) + 1 by omega, Nat.pow_succ]; omega
    have h3 : 0 < 2 ^ (36 - m) := Nat.two_pow_pos _
    obtain ⟨v, ev⟩ : ∃ x, x = pts n cube m := ⟨_, rfl⟩
    obtain ⟨t, et⟩ : ∃ x, x = 2 ^ (36 - m) := ⟨_, rfl⟩
    rw [← ev, h2, ← et] at hp
    rw [← et] at h3
    have hs := pts_s n cube m
    rw [← ev, ← et] at hs
    rw [← ev]
    cases hq : fitsF (v + t) n cube
    · skip
      refine wp_seq_k (fun K6 k6 => ?_)
      refine wp_seq_k (fun K7 k7 => ?_)
      refine gs [.det (.int .i64 (36 - (m : Int))), .det (.bool true)] [0, 1] [0, 1] (fun L => [.int .u64 ((n : Nat) : Int), .bool cube] ++ (D d 2 3 ++ ([.int .u64 ((v : Nat) : Int), .int .i64 (36 - (m : Int)), d 7, .int .i64 (36 - (m : Int)), .bool true] ++ D d 10 13))) (fun L => []) hJ ⟨
        oM, oJ .i64 .i64 (36 - (m : Int)) 0 (h := fun w => (geqI _ _ _ w).trans (by rw [decide_eq_true (by omega)])),
        trivial⟩ (fun L3 w4 hp4 => ?_)
      refine k7 _ _ ?_
      refine wp_cond_true (by kernel_rfl) ?_
      refine skips ?_
      refine k6 _ _ ?_
      refine wp_seq_k (fun K8 k8 => ?_)
      refine wp_block_k (fun K9 k9 => ?_)
      refine wp_seq_k (fun K10 k10 => ?_)
      refine gs [.det (.int .u64 ((v : Nat) : Int)), .det (.int .i64 (36 - (m : Int))), .det (.int .u64 ((t : Nat) : Int)), .det (.int .u64 ((v + t : Nat) : Int)), .det (.int .u64 ((v + t : Nat) : Int))] [0, 1, 2, 3, 4] [0, 0, 2, 7, 15] (fun L => [.int .u64 ((n : Nat) : Int), .bool cube] ++ (D d 2 3 ++ ([.int .u64 ((v : Nat) : Int), .int .i64 (36 - (m : Int)), .int .u64 ((v + t : Nat) : Int), .int .i64 (36 - (m : Int)), .bool true] ++ (D d 10 2 ++ ([.int .u64 ((v : Nat) : Int), .int .i64 (36 - (m : Int)), .int .u64 ((t : Nat) : Int), .int .u64 ((v + t : Nat) : Int)] ++ D d 16 7))))) (fun L => []) hp4 ⟨
        oM, oM, oJ .u64 .i64 1 (36 - (m : Int)) (h := fun w => by rw [show (36 - (m : Int)) = ((36 - m : Nat) : Int) by omega]; exact (shlU _ 1 (36 - m) .i64 (by omega) (by omega) w).trans (by rw [Nat.one_mul, ← et])),
        oJ .u64 .u64 ((v : Nat) : Int) ((t : Nat) : Int) (h := fun w => addU _ v t (by omega) w), oA,
        trivial⟩ (fun L4 w5 hp5 => ?_)
      refine k10 _ _ ?_
      refine wp_seq_k (fun K11 k11 => ?_)
      refine gs [.det (.int .u64 ((v + t : Nat) : Int)), .det (.int .u64 ((n : Nat) : Int)), .det (.bool cube), .det (.bool false)] [0, 1, 2, 3] [0, 0, 0, 7] (fun L => [.int .u64 ((n : Nat) : Int), .bool cube] ++ (D d 2 3 ++ ([.int .u64 ((v : Nat) : Int), .int .i64 (36 - (m : Int)), .int .u64 ((v + t : Nat) : Int), .int .i64 (36 - (m : Int)), .bool true] ++ (D d 10 2 ++ ([.int .u64 ((v : Nat) : Int), .int .i64 (36 - (m : Int)), .int .u64 ((t : Nat) : Int), .int .u64 ((v + t : Nat) : Int), .int .u64 ((v + t : Nat) : Int), .int .u64 ((n : Nat) : Int), .bool cube, .bool false] ++ D d 20 3))))) (fun L => []) hp5 ⟨
        oM, oM, oM, oH (v := .bool false) (vs := #[.int .u64 ((v + t : Nat) : Int), .int .u64 ((n : Nat) : Int), .bool cube]) (fun w _ _ => by have h := refFits (v + t) n cube w (by omega) hn; rw [hq] at h; exact h),
        trivial⟩ (fun L5 w6 hp6 => ?_)
      refine k11 _ _ ?_
      refine wp_cond_false (by kernel_rfl) ?_
      refine skips ?_
      refine k9 _ _ _ ?_
      refine block_normal ?_
      refine k8 _ _ ?_
      refine gs [.det (.int .i64 (36 - (m : Int))), .det (.int .i64 (36 - ((m + 1 : Nat) : Int))), .det (.int .i64 (36 - ((m + 1 : Nat) : Int)))] [0, 1, 2] [0, 1, 3] (fun L => [.int .u64 ((n : Nat) : Int), .bool cube] ++ (D d 2 3 ++ ([.int .u64 ((v : Nat) : Int), .int .i64 (36 - ((m + 1 : Nat) : Int)), .int .u64 ((v + t : Nat) : Int), .int .i64 (36 - (m : Int)), .bool true, .int .i64 (36 - (m : Int)), .int .i64 (36 - ((m + 1 : Nat) : Int)), .int .u64 ((v : Nat) : Int), .int .i64 (36 - (m : Int)), .int .u64 ((t : Nat) : Int), .int .u64 ((v + t : Nat) : Int), .int .u64 ((v + t : Nat) : Int), .int .u64 ((n : Nat) : Int), .bool cube, .bool false] ++ D d 20 3))) (fun L => []) hp6 ⟨
        oM, oJ .i64 .i64 (36 - (m : Int)) 1 (h := fun w => subI36 _ m (by omega) w), oA,
        trivial⟩ (fun L6 w7 hp7 => ?_)
      rw [hq] at hs
      exact ⟨L - 1, by omega, m + 1, (fun zz => ([.int .u64 ((n : Nat) : Int), .bool cube] ++ (D d 2 3 ++ ([.int .u64 ((v : Nat) : Int), .int .i64 (36 - ((m + 1 : Nat) : Int)), .int .u64 ((v + t : Nat) : Int), .int .i64 (36 - (m : Int)), .bool true, .int .i64 (36 - (m : Int)), .int .i64 (36 - ((m + 1 : Nat) : Int)), .int .u64 ((v : Nat) : Int), .int .i64 (36 - (m : Int)), .int .u64 ((t : Nat) : Int), .int .u64 ((v + t : Nat) : Int), .int .u64 ((v + t : Nat) : Int), .int .u64 ((n : Nat) : Int), .bool cube, .bool false] ++ D d 20 3)) : List Value).getD zz undef), by rw [hs]; kernel_rfl, by omega, hp7⟩
    · skip
      refine wp_seq_k (fun K12 k12 => ?_)
      refine wp_seq_k (fun K13 k13 => ?_)
      refine gs [.det (.int .i64 (36 - (m : Int))), .det (.bool true)] [0, 1] [0, 1] (fun L => [.int .u64 ((n : Nat) : Int), .bool cube] ++ (D d 2 3 ++ ([.int .u64 ((v : Nat) : Int), .int .i64 (36 - (m : Int)), d 7, .int .i64 (36 - (m : Int)), .bool true] ++ D d 10 13))) (fun L => []) hJ ⟨
        oM, oJ .i64 .i64 (36 - (m : Int)) 0 (h := fun w => (geqI _ _ _ w).trans (by rw [decide_eq_true (by omega)])),
        trivial⟩ (fun L7 w8 hp8 => ?_)
      refine k13 _ _ ?_
      refine wp_cond_true (by kernel_rfl) ?_
      refine skips ?_
      refine k12 _ _ ?_
      refine wp_seq_k (fun K14 k14 => ?_)
      refine wp_block_k (fun K15 k15 => ?_)
      refine wp_seq_k (fun K16 k16 => ?_)
      refine gs [.det (.int .u64 ((v : Nat) : Int)), .det (.int .i64 (36 - (m : Int))), .det (.int .u64 ((t : Nat) : Int)), .det (.int .u64 ((v + t : Nat) : Int)), .det (.int .u64 ((v + t : Nat) : Int))] [0, 1, 2, 3, 4] [0, 0, 2, 7, 15] (fun L => [.int .u64 ((n : Nat) : Int), .bool cube] ++ (D d 2 3 ++ ([.int .u64 ((v : Nat) : Int), .int .i64 (36 - (m : Int)), .int .u64 ((v + t : Nat) : Int), .int .i64 (36 - (m : Int)), .bool true] ++ (D d 10 2 ++ ([.int .u64 ((v : Nat) : Int), .int .i64 (36 - (m : Int)), .int .u64 ((t : Nat) : Int), .int .u64 ((v + t : Nat) : Int)] ++ D d 16 7))))) (fun L => []) hp8 ⟨
        oM, oM, oJ .u64 .i64 1 (36 - (m : Int)) (h := fun w => by rw [show (36 - (m : Int)) = ((36 - m : Nat) : Int) by omega]; exact (shlU _ 1 (36 - m) .i64 (by omega) (by omega) w).trans (by rw [Nat.one_mul, ← et])),
        oJ .u64 .u64 ((v : Nat) : Int) ((t : Nat) : Int) (h := fun w => addU _ v t (by omega) w), oA,
        trivial⟩ (fun L8 w9 hp9 => ?_)
      refine k16 _ _ ?_
      refine wp_seq_k (fun K17 k17 => ?_)
      refine gs [.det (.int .u64 ((v + t : Nat) : Int)), .det (.int .u64 ((n : Nat) : Int)), .det (.bool cube), .det (.bool true)] [0, 1, 2, 3] [0, 0, 0, 7] (fun L => [.int .u64 ((n : Nat) : Int), .bool cube] ++ (D d 2 3 ++ ([.int .u64 ((v : Nat) : Int), .int .i64 (36 - (m : Int)), .int .u64 ((v + t : Nat) : Int), .int .i64 (36 - (m : Int)), .bool true] ++ (D d 10 2 ++ ([.int .u64 ((v : Nat) : Int), .int .i64 (36 - (m : Int)), .int .u64 ((t : Nat) : Int), .int .u64 ((v + t : Nat) : Int), .int .u64 ((v + t : Nat) : Int), .int .u64 ((n : Nat) : Int), .bool cube, .bool true] ++ D d 20 3))))) (fun L => []) hp9 ⟨
        oM, oM, oM, oH (v := .bool true) (vs := #[.int .u64 ((v + t : Nat) : Int), .int .u64 ((n : Nat) : Int), .bool cube]) (fun w _ _ => by have h := refFits (v + t) n cube w (by omega) hn; rw [hq] at h; exact h),
        trivial⟩ (fun L9 w10 hp10 => ?_)
      refine k17 _ _ ?_
      refine wp_cond_true (by kernel_rfl) ?_
      refine gs [.det (.int .u64 ((v + t : Nat) : Int)), .det (.int .u64 ((v + t : Nat) : Int))] [0, 1] [0, 1] (fun L => [.int .u64 ((n : Nat) : Int), .bool cube] ++ (D d 2 3 ++ ([.int .u64 ((v + t : Nat) : Int), .int .i64 (36 - (m : Int)), .int .u64 ((v + t : Nat) : Int), .int .i64 (36 - (m : Int)), .bool true] ++ (D d 10 2 ++ ([.int .u64 ((v : Nat) : Int), .int .i64 (36 - (m : Int)), .int .u64 ((t : Nat) : Int), .int .u64 ((v + t : Nat) : Int), .int .u64 ((v + t : Nat) : Int), .int .u64 ((n : Nat) : Int), .bool cube, .bool true, .int .u64 ((v + t : Nat) : Int)] ++ D d 21 2))))) (fun L => []) hp10 ⟨
        oM, oA,
        trivial⟩ (fun L10 w11 hp11 => ?_)
      refine k15 _ _ _ ?_
      refine block_normal ?_
      refine k14 _ _ ?_
      refine gs [.det (.int .i64 (36 - (m : Int))), .det (.int .i64 (36 - ((m + 1 : Nat) : Int))), .det (.int .i64 (36 - ((m + 1 : Nat) : Int)))] [0, 1, 2] [0, 1, 3] (fun L => [.int .u64 ((n : Nat) : Int), .bool cube] ++ (D d 2 3 ++ ([.int .u64 ((v + t : Nat) : Int), .int .i64 (36 - ((m + 1 : Nat) : Int)), .int .u64 ((v + t : Nat) : Int), .int .i64 (36 - (m : Int)), .bool true, .int .i64 (36 - (m : Int)), .int .i64 (36 - ((m + 1 : Nat) : Int)), .int .u64 ((v : Nat) : Int), .int .i64 (36 - (m : Int)), .int .u64 ((t : Nat) : Int), .int .u64 ((v + t : Nat) : Int), .int .u64 ((v + t : Nat) : Int), .int .u64 ((n : Nat) : Int), .bool cube, .bool true, .int .u64 ((v + t : Nat) : Int)] ++ D d 21 2))) (fun L => []) hp11 ⟨
        oM, oJ .i64 .i64 (36 - (m : Int)) 1 (h := fun w => subI36 _ m (by omega) w), oA,
        trivial⟩ (fun L11 w12 hp12 => ?_)
      rw [hq] at hs
      exact ⟨L - 1, by omega, m + 1, (fun zz => ([.int .u64 ((n : Nat) : Int), .bool cube] ++ (D d 2 3 ++ ([.int .u64 ((v + t : Nat) : Int), .int .i64 (36 - ((m + 1 : Nat) : Int)), .int .u64 ((v + t : Nat) : Int), .int .i64 (36 - (m : Int)), .bool true, .int .i64 (36 - (m : Int)), .int .i64 (36 - ((m + 1 : Nat) : Int)), .int .u64 ((v : Nat) : Int), .int .i64 (36 - (m : Int)), .int .u64 ((t : Nat) : Int), .int .u64 ((v + t : Nat) : Int), .int .u64 ((v + t : Nat) : Int), .int .u64 ((n : Nat) : Int), .bool cube, .bool true, .int .u64 ((v + t : Nat) : Int)] ++ D d 21 2)) : List Value).getD zz undef), by rw [hs]; kernel_rfl, by omega, hp12⟩
  obtain rfl : m = 37 := by omega
  refine wp_seq_k (fun K18 k18 => ?_)
  refine wp_seq_k (fun K19 k19 => ?_)
  refine gs [.det (.int .i64 (36 - ((37 : Nat) : Int))), .det (.bool false)] [0, 1] [0, 1] (fun L => [.int .u64 ((n : Nat) : Int), .bool cube] ++ (D d 2 3 ++ ([.int .u64 ((pts n cube 37 : Nat) : Int), .int .i64 (36 - ((37 : Nat) : Int)), d 7, .int .i64 (36 - ((37 : Nat) : Int)), .bool false] ++ D d 10 13))) (fun L => []) hJ ⟨
    oM, oJ .i64 .i64 (36 - ((37 : Nat) : Int)) 0 (h := fun w => (geqI _ _ _ w).trans (by rw [decide_eq_false (by omega)])),
    trivial⟩ (fun L12 w13 hp13 => ?_)
  refine k19 _ _ ?_
  refine wp_cond_false (by kernel_rfl) ?_
  refine wp_exit ?_
  refine then_exit ?_
  refine then_exit ?_
  refine k5 _ _ _ ?_
  refine exit_in ?_
  refine k3 _ _ ?_
  refine wp_seq_k (fun K20 k20 => ?_)
  refine gs [.det (.int .u64 ((pts n cube 37 : Nat) : Int)), .det (W32 (zx ((pts n cube 37 : Nat) : Int))), .det (W32 (zx ((pts n cube 37 : Nat) : Int)))] [0, 1, 2] [0, 1, 3] (fun L => [.int .u64 ((n : Nat) : Int), .bool cube] ++ (D d 2 2 ++ ([W32 (zx ((pts n cube 37 : Nat) : Int)), .int .u64 ((pts n cube 37 : Nat) : Int), .int .i64 (36 - ((37 : Nat) : Int)), d 7, .int .i64 (36 - ((37 : Nat) : Int)), .bool false] ++ (D d 10 11 ++ [.int .u64 ((pts n cube 37 : Nat) : Int), W32 (zx ((pts n cube 37 : Nat) : Int))])))) (fun L => []) hp13 ⟨
    oM, oCv (fun w => convU (pts n cube 37) w), oA,
    trivial⟩ (fun L13 w14 hp14 => ?_)
  refine k20 _ _ ?_
  refine wp_ret ?_
  refine bodyPost_ret (v := W32 (zx ((pts n cube 37 : Nat) : Int))) ?_ rfl ?_
  · exact res_t rfl (by kernel_rfl) _
  · exact ⟨rfl, hp14.bel⟩
end Go.Proofs.Ytklddcicfeakfaa.fpn
