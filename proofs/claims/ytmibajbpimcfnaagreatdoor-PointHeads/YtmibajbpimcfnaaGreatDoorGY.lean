/- HD1 TK1. -/
import Derived.Test.YtmibajbpimcfnaaGreatDoorGX
import Derived.Test.YtmibajbpimcfnaaGreatDoorGO
import Derived.Deep.LoopGhost
import Derived.Test.YtmibajbpimcfnaaGreatDoorGM
/- The first bits of a point's bytes, as the reference reads them. -/
namespace Go.Proofs.YtmibajbpimcfnaaGreatDoor.fpn
open Go.RowKit Pl
set_option linter.unusedVariables false
set_option linter.unusedSimpArgs false
set_option maxRecDepth 4000

theorem gtrI (t : TypeId) (a b : Int) (w : World) : (binOp .gtr t (.int .i64 a) (.int .i64 b)).run Tryz.prog w = .ok (.bool (decide (b < a))) w := by simp [binOp, Sem.run_bind, Op.intCmp]
theorem hd_bad {g : Nat → Int} {n : Nat} {a b : Value} (h : ¬ ((∀ j, j < n → su g 0 (g 0 % 32) j = 0) ∧ ¬ g 0 / 32 = 7)) : Ending.returned b = Ending.returned (bif hdz g n then a else b) := by
  unfold hdz; rw [decide_eq_false h]; rfl
theorem hd_good {g : Nat → Int} {n i : Nat} {a b : Value} (hn : n ≤ i) (h : ∀ j, j < i → su g 0 (g 0 % 32) j = 0) (h7 : ¬ g 0 / 32 = 7) : Ending.returned a = Ending.returned (bif hdz g n then a else b) := by
  unfold hdz; rw [decide_eq_true ⟨fun j hj => h j (by omega), h7⟩]; rfl
theorem hd_more {f : Nat → Int} {i : Nat} (h : ∀ j, j < i → f j = 0) (hx : f i = 0) : ∀ j, j < i + 1 → f j = 0 := fun j hj => by
  rcases Nat.lt_or_ge j i with h1 | h1
  · exact h j h1
  · obtain rfl : j = i := by omega
    exact hx
set_option maxHeartbeats 4000000 in
theorem ref5hdLow48 (p : Option Addr) (c : Nat) (g : Nat → Int) (w : World) (hb : AtK .u8 w p 48 g) (r0 : 0 ≤ g 0) (hl : g 0 / 32 < 4) : Calls Tryz.prog 57 #[.slice p 48 c, .int .i64 48] w (Ret (.tuple #[.slice none 0 0, .bool false, .bool false, .int .i64 3]) w) := by
  have hp0 := Heap.start w
  go_enter Tryz.func57, Tryz.ntmps57
  refine wp_seq_k (fun K1 k1 => ?_)
  refine gsD [.det (.slice none 0 0), .det (.bool false), .det (.bool false), .det (.int .i64 0)] [0, 1, 2, 3] [0, 1, 3, 7] (fun L d => [.slice p 48 c, .int .i64 48] ++ D d 2 51) (fun L => []) hp0 ⟨
    oA, oA, oA, oA,
    trivial⟩ (fun L0 d0 w1 hp1 => ?_)
  refine k1 _ _ ?_
  refine wp_seq_k (fun K2 k2 => ?_)
  refine wp_seq_k (fun K3 k3 => ?_)
  refine gsD [.det (.slice p 48 c), .det (.int .i64 48), .det (.int .i64 48), .det (.bool false)] [0, 1, 2, 3] [0, 1, 0, 7] (fun L d => [.slice p 48 c, .int .i64 48] ++ (D d 2 12 ++ ([.bool false] ++ D d 15 38))) (fun L => []) hp1 ⟨
    oM, fun h => ⟨ob_len (p := p) (n := 48) (c := c) (fun _ => rfl) h rfl (fun _ => by kernel_rfl) Tryz.underlying45⟩, oM, oJ .i64 .i64 48 48,
    trivial⟩ (fun L1 d1 w2 hp2 => ?_)
  refine k3 _ _ ?_
  refine wp_cond_false (by kernel_rfl) ?_
  refine skips ?_
  refine k2 _ _ ?_
  refine wp_seq_k (fun K4 k4 => ?_)
  refine wp_seq_k (fun K5 k5 => ?_)
  refine gsD [.det (.slice p 48 c), .det (.int .i64 48), .det (.int .i64 48), .det (.bool false)] [0, 1, 2, 3] [0, 1, 0, 7] (fun L d => [.slice p 48 c] ++ (D d 1 17 ++ ([.bool false] ++ D d 19 34))) (fun L => []) hp2 ⟨
    oM, fun h => ⟨ob_len (p := p) (n := 48) (c := c) (fun _ => rfl) h rfl (fun _ => by kernel_rfl) Tryz.underlying45⟩, oM, oJ .i64 .i64 48 48,
    trivial⟩ (fun L2 d2 w3 hp3 => ?_)
  refine k5 _ _ ?_
  refine wp_cond_false (by kernel_rfl) ?_
  refine skips ?_
  refine k4 _ _ ?_
  refine wp_seq_k (fun K6 k6 => ?_)
  refine gsA [.any isE, .det (.slice p 48 c), .any (isB w.heap.size [] g 48), .detV 2 (fun v => v)] [0, 1, 2, 3] [0, 0, 3, 7] (fun L => [.slice p 48 c] ++ (D d2 1 7 ++ ([L.v 2] ++ (D d2 9 9 ++ ([.bool false, L.v 0, .slice p 48 c, L.v 2] ++ D d2 22 31))))) (fun L => []) hp3 ⟨
    oE0, oM, oApE (n := 48) (c := c) [] 0 (by decide) (by decide) hb, oAV,
    trivial⟩ (fun L3 w4 hp4 ha4 => ?_)
  obtain ⟨kb3b2, cb3b2, eb3b2, lb3b2, mb3b2, qb3b2, ub3b2, xb3b2⟩ := AnyF.at ha4 (j := 2) rfl rfl
  rw [eb3b2]
  have hp43b2 := Heap.add hp4 qb3b2 ub3b2 xb3b2
  refine k6 _ _ ?_
  refine wp_seq_k (fun K7 k7 => ?_)
  refine gsD [.det (.slice (some ⟨kb3b2, 0, none⟩) 48 cb3b2), .det (pt kb3b2 0), .det (.int .u8 (g 0)), .det (.int .u8 (g 0 / 32)), .det (.int .u8 (g 0 / 32))] [0, 1, 2, 3, 4] [0, 1, 3, 7, 15] (fun L d => D d 0 8 ++ ([.slice (some ⟨kb3b2, 0, none⟩) 48 cb3b2, .int .u8 (g 0 / 32)] ++ D d 10 43)) (fun L => [(kb3b2, BC g 48)]) hp43b2 ⟨
    oM, oIS (b := kb3b2) (off := 0) (n := 48) (c := cb3b2) (sz := 1) 0 Tryz.underlying45 sizeY (by decide), oL1 0 0 oneY, oJ .u8 .u64 (g 0) 5 (h := fun w => shrY _ _ _ 5 rfl (by decide) w),
    oA,
    trivial⟩ (fun L4 d4 w5 hp5 => ?_)
  refine k7 _ _ ?_
  refine wp_seq_k (fun K8 k8 => ?_)
  refine gsD [.det (.slice (some ⟨kb3b2, 0, none⟩) 48 cb3b2), .det (.slice (some ⟨kb3b2, 0, none⟩) 48 cb3b2), .det (pt kb3b2 0), .det (.int .u8 (g 0)), .det (.int .u8 (g 0 % 32)), .det (pt kb3b2 0), .store (.base 0) 0 ([.int .u8 (g 0 % 32)]) (BC (su g 0 (g 0 % 32)) 48)] [0, 1, 2, 3, 4, 5, 6] [0, 0, 2, 6, 14, 31, 63] (fun L d => D d 0 9 ++ ([.int .u8 (g 0 / 32)] ++ D d 10 43)) (fun L => [(kb3b2, BC (su g 0 (g 0 % 32)) 48)]) hp5 ⟨
    oM, oM, oIS (b := kb3b2) (off := 0) (n := 48) (c := cb3b2) (sz := 1) 0 Tryz.underlying45 sizeY (by decide), oL1 0 0 oneY, oJ .u8 .u8 (g 0) 32 (h := fun w => remY _ _ _ _ rfl r0 (by decide) w),
    oIS (b := kb3b2) (off := 0) (n := 48) (c := cb3b2) (sz := 1) 0 Tryz.underlying45 sizeY (by decide), oT1 oneY,
    trivial⟩ (fun L5 d5 w6 hp6 => ?_)
  refine k8 _ _ ?_
  refine wp_seq_k (fun K9 k9 => ?_)
  refine wp_seq_k (fun K10 k10 => ?_)
  refine gsD [.det (.int .u8 (g 0 / 32)), .det (.bool true)] [0, 1] [0, 1] (fun L d => D d 0 33 ++ ([.bool true] ++ D d 34 19)) (fun L => [(kb3b2, BC (su g 0 (g 0 % 32)) 48)]) hp6 ⟨
    oM, oJ .u8 .u8 (g 0 / 32) 4 (h := fun w => (lssY _ _ _ w).trans (by rw [decide_eq_true hl])),
    trivial⟩ (fun L6 d6 w7 hp7 => ?_)
  refine k10 _ _ ?_
  refine wp_cond_true (by kernel_rfl) ?_
  refine wp_seq_k (fun K11 k11 => ?_)
  refine gsD [.det (.slice none 0 0), .det (.bool false), .det (.bool false), .det (.int .i64 3)] [0, 1, 2, 3] [0, 1, 3, 7] (fun L d => D d 0 4 ++ ([.slice none 0 0, .bool false, .bool false, .int .i64 3] ++ D d 8 45)) (fun L => [(kb3b2, BC (su g 0 (g 0 % 32)) 48)]) hp7 ⟨
    oA, oA, oA, oA,
    trivial⟩ (fun L7 d7 w8 hp8 => ?_)
  refine k11 _ _ ?_
  refine wp_ret ?_
  refine bodyPost_ret (v := .tuple #[.slice none 0 0, .bool false, .bool false, .int .i64 3]) ?_ rfl ?_
  · exact res_4 rfl (by kernel_rfl) (by kernel_rfl) (by kernel_rfl) (by kernel_rfl) _
  · exact ⟨rfl, hp8.bel⟩
set_option maxHeartbeats 4000000 in
theorem ref5hdShort48 (p : Option Addr) (n c : Nat) (w : World) (hn : n < 48) : Calls Tryz.prog 57 #[.slice p n c, .int .i64 48] w (Ret (.tuple #[.slice none 0 0, .bool false, .bool false, .int .i64 2]) w) := by
  have hp0 := Heap.start w
  go_enter Tryz.func57, Tryz.ntmps57
  refine wp_seq_k (fun K1 k1 => ?_)
  refine gsD [.det (.slice none 0 0), .det (.bool false), .det (.bool false), .det (.int .i64 0)] [0, 1, 2, 3] [0, 1, 3, 7] (fun L d => [.slice p n c, .int .i64 48] ++ D d 2 51) (fun L => []) hp0 ⟨
    oA, oA, oA, oA,
    trivial⟩ (fun L0 d0 w1 hp1 => ?_)
  refine k1 _ _ ?_
  refine wp_seq_k (fun K2 k2 => ?_)
  refine wp_seq_k (fun K3 k3 => ?_)
  refine gsD [.det (.slice p n c), .det (.int .i64 n), .det (.int .i64 48), .det (.bool true)] [0, 1, 2, 3] [0, 1, 0, 7] (fun L d => D d 0 14 ++ ([.bool true] ++ D d 15 38)) (fun L => []) hp1 ⟨
    oM, fun h => ⟨ob_len (p := p) (n := n) (c := c) (fun _ => rfl) h rfl (fun _ => by kernel_rfl) Tryz.underlying45⟩, oM, oJ .i64 .i64 n 48 (h := fun w => (lssI _ _ _ w).trans (by rw [decide_eq_true (by omega)])),
    trivial⟩ (fun L1 d1 w2 hp2 => ?_)
  refine k3 _ _ ?_
  refine wp_cond_true (by kernel_rfl) ?_
  refine wp_seq_k (fun K4 k4 => ?_)
  refine gsD [.det (.slice none 0 0), .det (.bool false), .det (.bool false), .det (.int .i64 2)] [0, 1, 2, 3] [0, 1, 3, 7] (fun L d => D d 0 4 ++ ([.slice none 0 0, .bool false, .bool false, .int .i64 2] ++ D d 8 45)) (fun L => []) hp2 ⟨
    oA, oA, oA, oA,
    trivial⟩ (fun L2 d2 w3 hp3 => ?_)
  refine k4 _ _ ?_
  refine wp_ret ?_
  refine bodyPost_ret (v := .tuple #[.slice none 0 0, .bool false, .bool false, .int .i64 2]) ?_ rfl ?_
  · exact res_4 rfl (by kernel_rfl) (by kernel_rfl) (by kernel_rfl) (by kernel_rfl) _
  · exact ⟨rfl, hp3.bel⟩
set_option maxHeartbeats 4000000 in
theorem ref5hdLong48 (p : Option Addr) (n c : Nat) (w : World) (hn : 48 < n) : Calls Tryz.prog 57 #[.slice p n c, .int .i64 48] w (Ret (.tuple #[.slice none 0 0, .bool false, .bool false, .int .i64 8]) w) := by
  have hp0 := Heap.start w
  go_enter Tryz.func57, Tryz.ntmps57
  refine wp_seq_k (fun K1 k1 => ?_)
  refine gsD [.det (.slice none 0 0), .det (.bool false), .det (.bool false), .det (.int .i64 0)] [0, 1, 2, 3] [0, 1, 3, 7] (fun L d => [.slice p n c, .int .i64 48] ++ D d 2 51) (fun L => []) hp0 ⟨
    oA, oA, oA, oA,
    trivial⟩ (fun L0 d0 w1 hp1 => ?_)
  refine k1 _ _ ?_
  refine wp_seq_k (fun K2 k2 => ?_)
  refine wp_seq_k (fun K3 k3 => ?_)
  refine gsD [.det (.slice p n c), .det (.int .i64 n), .det (.int .i64 48), .det (.bool false)] [0, 1, 2, 3] [0, 1, 0, 7] (fun L d => [.slice p n c, .int .i64 48] ++ (D d 2 12 ++ ([.bool false] ++ D d 15 38))) (fun L => []) hp1 ⟨
    oM, fun h => ⟨ob_len (p := p) (n := n) (c := c) (fun _ => rfl) h rfl (fun _ => by kernel_rfl) Tryz.underlying45⟩, oM, oJ .i64 .i64 n 48 (h := fun w => (lssI _ _ _ w).trans (by rw [decide_eq_false (by omega)])),
    trivial⟩ (fun L1 d1 w2 hp2 => ?_)
  refine k3 _ _ ?_
  refine wp_cond_false (by kernel_rfl) ?_
  refine skips ?_
  refine k2 _ _ ?_
  refine wp_seq_k (fun K4 k4 => ?_)
  refine wp_seq_k (fun K5 k5 => ?_)
  refine gsD [.det (.slice p n c), .det (.int .i64 n), .det (.int .i64 48), .det (.bool true)] [0, 1, 2, 3] [0, 1, 0, 7] (fun L d => D d 0 18 ++ ([.bool true] ++ D d 19 34)) (fun L => []) hp2 ⟨
    oM, fun h => ⟨ob_len (p := p) (n := n) (c := c) (fun _ => rfl) h rfl (fun _ => by kernel_rfl) Tryz.underlying45⟩, oM, oJ .i64 .i64 n 48 (h := fun w => (gtrI _ _ _ w).trans (by rw [decide_eq_true (by omega)])),
    trivial⟩ (fun L2 d2 w3 hp3 => ?_)
  refine k5 _ _ ?_
  refine wp_cond_true (by kernel_rfl) ?_
  refine wp_seq_k (fun K6 k6 => ?_)
  refine gsD [.det (.slice none 0 0), .det (.bool false), .det (.bool false), .det (.int .i64 8)] [0, 1, 2, 3] [0, 1, 3, 7] (fun L d => D d 0 4 ++ ([.slice none 0 0, .bool false, .bool false, .int .i64 8] ++ D d 8 45)) (fun L => []) hp3 ⟨
    oA, oA, oA, oA,
    trivial⟩ (fun L3 d3 w4 hp4 => ?_)
  refine k6 _ _ ?_
  refine wp_ret ?_
  refine bodyPost_ret (v := .tuple #[.slice none 0 0, .bool false, .bool false, .int .i64 8]) ?_ rfl ?_
  · exact res_4 rfl (by kernel_rfl) (by kernel_rfl) (by kernel_rfl) (by kernel_rfl) _
  · exact ⟨rfl, hp4.bel⟩
set_option maxHeartbeats 4000000 in
theorem ref5hdOk48 (p : Option Addr) (c : Nat) (g : Nat → Int) (w : World) (hb : AtK .u8 w p 48 g) (r0 : 0 ≤ g 0) (hl : ¬ g 0 / 32 < 4) (h6 : ¬ 6 ≤ g 0 / 32) : Calls Tryz.prog 57 #[.slice p 48 c, .int .i64 48] w (RetT (fun s => .tuple #[s, .bool false, .bool (decide (g 0 / 32 = 5)), .int .i64 0]) (su g 0 (g 0 % 32)) 48 w) := by
  have hp0 := Heap.start w
  go_enter Tryz.func57, Tryz.ntmps57
  refine wp_seq_k (fun K1 k1 => ?_)
  refine gsD [.det (.slice none 0 0), .det (.bool false), .det (.bool false), .det (.int .i64 0)] [0, 1, 2, 3] [0, 1, 3, 7] (fun L d => [.slice p 48 c, .int .i64 48] ++ D d 2 51) (fun L => []) hp0 ⟨
    oA, oA, oA, oA,
    trivial⟩ (fun L0 d0 w1 hp1 => ?_)
  refine k1 _ _ ?_
  refine wp_seq_k (fun K2 k2 => ?_)
  refine wp_seq_k (fun K3 k3 => ?_)
  refine gsD [.det (.slice p 48 c), .det (.int .i64 48), .det (.int .i64 48), .det (.bool false)] [0, 1, 2, 3] [0, 1, 0, 7] (fun L d => [.slice p 48 c, .int .i64 48] ++ (D d 2 12 ++ ([.bool false] ++ D d 15 38))) (fun L => []) hp1 ⟨
    oM, fun h => ⟨ob_len (p := p) (n := 48) (c := c) (fun _ => rfl) h rfl (fun _ => by kernel_rfl) Tryz.underlying45⟩, oM, oJ .i64 .i64 48 48,
    trivial⟩ (fun L1 d1 w2 hp2 => ?_)
  refine k3 _ _ ?_
  refine wp_cond_false (by kernel_rfl) ?_
  refine skips ?_
  refine k2 _ _ ?_
  refine wp_seq_k (fun K4 k4 => ?_)
  refine wp_seq_k (fun K5 k5 => ?_)
  refine gsD [.det (.slice p 48 c), .det (.int .i64 48), .det (.int .i64 48), .det (.bool false)] [0, 1, 2, 3] [0, 1, 0, 7] (fun L d => [.slice p 48 c] ++ (D d 1 17 ++ ([.bool false] ++ D d 19 34))) (fun L => []) hp2 ⟨
    oM, fun h => ⟨ob_len (p := p) (n := 48) (c := c) (fun _ => rfl) h rfl (fun _ => by kernel_rfl) Tryz.underlying45⟩, oM, oJ .i64 .i64 48 48,
    trivial⟩ (fun L2 d2 w3 hp3 => ?_)
  refine k5 _ _ ?_
  refine wp_cond_false (by kernel_rfl) ?_
  refine skips ?_
  refine k4 _ _ ?_
  refine wp_seq_k (fun K6 k6 => ?_)
  refine gsA [.any isE, .det (.slice p 48 c), .any (isB w.heap.size [] g 48), .detV 2 (fun v => v)] [0, 1, 2, 3] [0, 0, 3, 7] (fun L => [.slice p 48 c] ++ (D d2 1 7 ++ ([L.v 2] ++ (D d2 9 9 ++ ([.bool false, L.v 0, .slice p 48 c, L.v 2] ++ D d2 22 31))))) (fun L => []) hp3 ⟨
    oE0, oM, oApE (n := 48) (c := c) [] 0 (by decide) (by decide) hb, oAV,
    trivial⟩ (fun L3 w4 hp4 ha4 => ?_)
  obtain ⟨kb3b2, cb3b2, eb3b2, lb3b2, mb3b2, qb3b2, ub3b2, xb3b2⟩ := AnyF.at ha4 (j := 2) rfl rfl
  rw [eb3b2]
  have hp43b2 := Heap.add hp4 qb3b2 ub3b2 xb3b2
  refine k6 _ _ ?_
  refine wp_seq_k (fun K7 k7 => ?_)
  refine gsD [.det (.slice (some ⟨kb3b2, 0, none⟩) 48 cb3b2), .det (pt kb3b2 0), .det (.int .u8 (g 0)), .det (.int .u8 (g 0 / 32)), .det (.int .u8 (g 0 / 32))] [0, 1, 2, 3, 4] [0, 1, 3, 7, 15] (fun L d => D d 0 8 ++ ([.slice (some ⟨kb3b2, 0, none⟩) 48 cb3b2, .int .u8 (g 0 / 32)] ++ D d 10 43)) (fun L => [(kb3b2, BC g 48)]) hp43b2 ⟨
    oM, oIS (b := kb3b2) (off := 0) (n := 48) (c := cb3b2) (sz := 1) 0 Tryz.underlying45 sizeY (by decide), oL1 0 0 oneY, oJ .u8 .u64 (g 0) 5 (h := fun w => shrY _ _ _ 5 rfl (by decide) w),
    oA,
    trivial⟩ (fun L4 d4 w5 hp5 => ?_)
  refine k7 _ _ ?_
  refine wp_seq_k (fun K8 k8 => ?_)
  refine gsD [.det (.slice (some ⟨kb3b2, 0, none⟩) 48 cb3b2), .det (.slice (some ⟨kb3b2, 0, none⟩) 48 cb3b2), .det (pt kb3b2 0), .det (.int .u8 (g 0)), .det (.int .u8 (g 0 % 32)), .det (pt kb3b2 0), .store (.base 0) 0 ([.int .u8 (g 0 % 32)]) (BC (su g 0 (g 0 % 32)) 48)] [0, 1, 2, 3, 4, 5, 6] [0, 0, 2, 6, 14, 31, 63] (fun L d => D d 0 8 ++ ([.slice (some ⟨kb3b2, 0, none⟩) 48 cb3b2, .int .u8 (g 0 / 32)] ++ D d 10 43)) (fun L => [(kb3b2, BC (su g 0 (g 0 % 32)) 48)]) hp5 ⟨
    oM, oM, oIS (b := kb3b2) (off := 0) (n := 48) (c := cb3b2) (sz := 1) 0 Tryz.underlying45 sizeY (by decide), oL1 0 0 oneY, oJ .u8 .u8 (g 0) 32 (h := fun w => remY _ _ _ _ rfl r0 (by decide) w),
    oIS (b := kb3b2) (off := 0) (n := 48) (c := cb3b2) (sz := 1) 0 Tryz.underlying45 sizeY (by decide), oT1 oneY,
    trivial⟩ (fun L5 d5 w6 hp6 => ?_)
  refine k8 _ _ ?_
  refine wp_seq_k (fun K9 k9 => ?_)
  refine wp_seq_k (fun K10 k10 => ?_)
  refine gsD [.det (.int .u8 (g 0 / 32)), .det (.bool false)] [0, 1] [0, 1] (fun L d => D d 0 8 ++ ([.slice (some ⟨kb3b2, 0, none⟩) 48 cb3b2, .int .u8 (g 0 / 32)] ++ (D d 10 23 ++ ([.bool false] ++ D d 34 19)))) (fun L => [(kb3b2, BC (su g 0 (g 0 % 32)) 48)]) hp6 ⟨
    oM, oJ .u8 .u8 (g 0 / 32) 4 (h := fun w => (lssY _ _ _ w).trans (by rw [decide_eq_false hl])),
    trivial⟩ (fun L6 d6 w7 hp7 => ?_)
  refine k10 _ _ ?_
  refine wp_cond_false (by kernel_rfl) ?_
  refine skips ?_
  refine k9 _ _ ?_
  refine wp_seq_k (fun K11 k11 => ?_)
  refine wp_seq_k (fun K12 k12 => ?_)
  refine gsD [.det (.int .u8 (g 0 / 32)), .det (.bool false)] [0, 1] [0, 1] (fun L d => D d 0 8 ++ ([.slice (some ⟨kb3b2, 0, none⟩) 48 cb3b2, .int .u8 (g 0 / 32)] ++ (D d 10 25 ++ ([.bool false] ++ D d 36 17)))) (fun L => [(kb3b2, BC (su g 0 (g 0 % 32)) 48)]) hp7 ⟨
    oM, oJ .u8 .u8 (g 0 / 32) 6 (h := fun w => (geqY _ _ _ w).trans (by rw [decide_eq_false h6])),
    trivial⟩ (fun L7 d7 w8 hp8 => ?_)
  refine k12 _ _ ?_
  refine wp_cond_false (by kernel_rfl) ?_
  refine skips ?_
  refine k11 _ _ ?_
  refine wp_seq_k (fun K13 k13 => ?_)
  refine gsD [.det (.slice (some ⟨kb3b2, 0, none⟩) 48 cb3b2), .det (.int .u8 (g 0 / 32)), .det (.bool (decide (g 0 / 32 = 5))), .det (.slice (some ⟨kb3b2, 0, none⟩) 48 cb3b2), .det (.bool false), .det (.bool (decide (g 0 / 32 = 5))), .det (.int .i64 0)] [0, 1, 2, 3, 4, 5, 6] [0, 0, 2, 1, 9, 31, 63] (fun L d => D d 0 4 ++ ([.slice (some ⟨kb3b2, 0, none⟩) 48 cb3b2, .bool false, .bool (decide (g 0 / 32 = 5)), .int .i64 0] ++ D d 8 45)) (fun L => [(kb3b2, BC (su g 0 (g 0 % 32)) 48)]) hp8 ⟨
    oM, oM, oJ .u8 .u8 (g 0 / 32) 5 (h := fun w => eqlI _ _ _ _ w), oA, oA, oA, oA,
    trivial⟩ (fun L8 d8 w9 hp9 => ?_)
  refine k13 _ _ ?_
  refine wp_ret ?_
  refine bodyPost_ret (v := .tuple #[.slice (some ⟨kb3b2, 0, none⟩) 48 cb3b2, .bool false, .bool (decide (g 0 / 32 = 5)), .int .i64 0]) ?_ rfl ?_
  · exact res_4 rfl (by kernel_rfl) (by kernel_rfl) (by kernel_rfl) (by kernel_rfl) _
  · exact ⟨_, rfl, ⟨_, rfl, kb3b2, cb3b2, rfl, lb3b2, mb3b2, qb3b2, (fun b hb => by cases hb), (hp9.bound 0 rfl).2⟩, hp9.bel⟩
def hdI48 (p : Option Addr) (c : Nat) (g : Nat → Int) (w : World) (k cp : Nat) : Nat → Act → World → Prop := fun L a' w' => ∃ (i : Nat) (d : Nat → Value), a' = { tmps := ([.slice p 48 c, .int .i64 48] ++ (D d 2 6 ++ ([.slice (some ⟨k, 0, none⟩) 48 cp, .int .u8 (g 0 / 32), .int .i64 (i : Int)] ++ D d 11 42)) : List Value).toArray, defers := [] } ∧ i + L = 48 ∧ (∀ j, j < i → (su g 0 (g 0 % 32)) j = 0) ∧ (0 < i → ¬ g 0 / 32 = 7) ∧ Heap w.heap.size w w' [(k, BC (su g 0 (g 0 % 32)) 48)]
set_option maxHeartbeats 4000000 in
theorem ref5hdBig48 (p : Option Addr) (c : Nat) (g : Nat → Int) (w : World) (hb : AtK .u8 w p 48 g) (r0 : 0 ≤ g 0) (hl : ¬ g 0 / 32 < 4) (h6 : 6 ≤ g 0 / 32) : Calls Tryz.prog 57 #[.slice p 48 c, .int .i64 48] w (Ret (bif hdz g 48 then .tuple #[.slice none 0 0, .bool true, .bool false, .int .i64 0] else .tuple #[.slice none 0 0, .bool false, .bool false, .int .i64 3]) w) := by
  have hp0 := Heap.start w
  go_enter Tryz.func57, Tryz.ntmps57
  refine wp_seq_k (fun K1 k1 => ?_)
  refine gsD [.det (.slice none 0 0), .det (.bool false), .det (.bool false), .det (.int .i64 0)] [0, 1, 2, 3] [0, 1, 3, 7] (fun L d => [.slice p 48 c, .int .i64 48] ++ D d 2 51) (fun L => []) hp0 ⟨
    oA, oA, oA, oA,
    trivial⟩ (fun L0 d0 w1 hp1 => ?_)
  refine k1 _ _ ?_
  refine wp_seq_k (fun K2 k2 => ?_)
  refine wp_seq_k (fun K3 k3 => ?_)
  refine gsD [.det (.slice p 48 c), .det (.int .i64 48), .det (.int .i64 48), .det (.bool false)] [0, 1, 2, 3] [0, 1, 0, 7] (fun L d => [.slice p 48 c, .int .i64 48] ++ (D d 2 12 ++ ([.bool false] ++ D d 15 38))) (fun L => []) hp1 ⟨
    oM, fun h => ⟨ob_len (p := p) (n := 48) (c := c) (fun _ => rfl) h rfl (fun _ => by kernel_rfl) Tryz.underlying45⟩, oM, oJ .i64 .i64 48 48,
    trivial⟩ (fun L1 d1 w2 hp2 => ?_)
  refine k3 _ _ ?_
  refine wp_cond_false (by kernel_rfl) ?_
  refine skips ?_
  refine k2 _ _ ?_
  refine wp_seq_k (fun K4 k4 => ?_)
  refine wp_seq_k (fun K5 k5 => ?_)
  refine gsD [.det (.slice p 48 c), .det (.int .i64 48), .det (.int .i64 48), .det (.bool false)] [0, 1, 2, 3] [0, 1, 0, 7] (fun L d => [.slice p 48 c, .int .i64 48] ++ (D d 2 16 ++ ([.bool false] ++ D d 19 34))) (fun L => []) hp2 ⟨
    oM, fun h => ⟨ob_len (p := p) (n := 48) (c := c) (fun _ => rfl) h rfl (fun _ => by kernel_rfl) Tryz.underlying45⟩, oM, oJ .i64 .i64 48 48,
    trivial⟩ (fun L2 d2 w3 hp3 => ?_)
  refine k5 _ _ ?_
  refine wp_cond_false (by kernel_rfl) ?_
  refine skips ?_
  refine k4 _ _ ?_
  refine wp_seq_k (fun K6 k6 => ?_)
  refine gsA [.any isE, .det (.slice p 48 c), .any (isB w.heap.size [] g 48), .detV 2 (fun v => v)] [0, 1, 2, 3] [0, 0, 3, 7] (fun L => [.slice p 48 c, .int .i64 48] ++ (D d2 2 6 ++ ([L.v 2] ++ (D d2 9 9 ++ ([.bool false, L.v 0, .slice p 48 c, L.v 2] ++ D d2 22 31))))) (fun L => []) hp3 ⟨
    oE0, oM, oApE (n := 48) (c := c) [] 0 (by decide) (by decide) hb, oAV,
    trivial⟩ (fun L3 w4 hp4 ha4 => ?_)
  obtain ⟨kb3b2, cb3b2, eb3b2, lb3b2, mb3b2, qb3b2, ub3b2, xb3b2⟩ := AnyF.at ha4 (j := 2) rfl rfl
  rw [eb3b2]
  have hp43b2 := Heap.add hp4 qb3b2 ub3b2 xb3b2
  refine k6 _ _ ?_
  refine wp_seq_k (fun K7 k7 => ?_)
  refine gsD [.det (.slice (some ⟨kb3b2, 0, none⟩) 48 cb3b2), .det (pt kb3b2 0), .det (.int .u8 (g 0)), .det (.int .u8 (g 0 / 32)), .det (.int .u8 (g 0 / 32))] [0, 1, 2, 3, 4] [0, 1, 3, 7, 15] (fun L d => [.slice p 48 c, .int .i64 48] ++ (D d 2 6 ++ ([.slice (some ⟨kb3b2, 0, none⟩) 48 cb3b2, .int .u8 (g 0 / 32)] ++ D d 10 43))) (fun L => [(kb3b2, BC g 48)]) hp43b2 ⟨
    oM, oIS (b := kb3b2) (off := 0) (n := 48) (c := cb3b2) (sz := 1) 0 Tryz.underlying45 sizeY (by decide), oL1 0 0 oneY, oJ .u8 .u64 (g 0) 5 (h := fun w => shrY _ _ _ 5 rfl (by decide) w),
    oA,
    trivial⟩ (fun L4 d4 w5 hp5 => ?_)
  refine k7 _ _ ?_
  refine wp_seq_k (fun K8 k8 => ?_)
  refine gsD [.det (.slice (some ⟨kb3b2, 0, none⟩) 48 cb3b2), .det (.slice (some ⟨kb3b2, 0, none⟩) 48 cb3b2), .det (pt kb3b2 0), .det (.int .u8 (g 0)), .det (.int .u8 (g 0 % 32)), .det (pt kb3b2 0), .store (.base 0) 0 ([.int .u8 (g 0 % 32)]) (BC (su g 0 (g 0 % 32)) 48)] [0, 1, 2, 3, 4, 5, 6] [0, 0, 2, 6, 14, 31, 63] (fun L d => [.slice p 48 c, .int .i64 48] ++ (D d 2 6 ++ ([.slice (some ⟨kb3b2, 0, none⟩) 48 cb3b2, .int .u8 (g 0 / 32)] ++ D d 10 43))) (fun L => [(kb3b2, BC (su g 0 (g 0 % 32)) 48)]) hp5 ⟨
    oM, oM, oIS (b := kb3b2) (off := 0) (n := 48) (c := cb3b2) (sz := 1) 0 Tryz.underlying45 sizeY (by decide), oL1 0 0 oneY, oJ .u8 .u8 (g 0) 32 (h := fun w => remY _ _ _ _ rfl r0 (by decide) w),
    oIS (b := kb3b2) (off := 0) (n := 48) (c := cb3b2) (sz := 1) 0 Tryz.underlying45 sizeY (by decide), oT1 oneY,
    trivial⟩ (fun L5 d5 w6 hp6 => ?_)
  refine k8 _ _ ?_
  refine wp_seq_k (fun K9 k9 => ?_)
  refine wp_seq_k (fun K10 k10 => ?_)
  refine gsD [.det (.int .u8 (g 0 / 32)), .det (.bool false)] [0, 1] [0, 1] (fun L d => [.slice p 48 c, .int .i64 48] ++ (D d 2 6 ++ ([.slice (some ⟨kb3b2, 0, none⟩) 48 cb3b2, .int .u8 (g 0 / 32)] ++ (D d 10 23 ++ ([.bool false] ++ D d 34 19))))) (fun L => [(kb3b2, BC (su g 0 (g 0 % 32)) 48)]) hp6 ⟨
    oM, oJ .u8 .u8 (g 0 / 32) 4 (h := fun w => (lssY _ _ _ w).trans (by rw [decide_eq_false hl])),
    trivial⟩ (fun L6 d6 w7 hp7 => ?_)
  refine k10 _ _ ?_
  refine wp_cond_false (by kernel_rfl) ?_
  refine skips ?_
  refine k9 _ _ ?_
  refine wp_seq_k (fun K11 k11 => ?_)
  refine wp_seq_k (fun K12 k12 => ?_)
  refine gsD [.det (.int .u8 (g 0 / 32)), .det (.bool true)] [0, 1] [0, 1] (fun L d => [.slice p 48 c, .int .i64 48] ++ (D d 2 6 ++ ([.slice (some ⟨kb3b2, 0, none⟩) 48 cb3b2, .int .u8 (g 0 / 32)] ++ (D d 10 25 ++ ([.bool true] ++ D d 36 17))))) (fun L => [(kb3b2, BC (su g 0 (g 0 % 32)) 48)]) hp7 ⟨
    oM, oJ .u8 .u8 (g 0 / 32) 6 (h := fun w => (geqY _ _ _ w).trans (by rw [decide_eq_true h6])),
    trivial⟩ (fun L7 d7 w8 hp8 => ?_)
  refine k12 _ _ ?_
  refine wp_cond_true (by kernel_rfl) ?_
  refine wp_seq_k (fun K13 k13 => ?_)
  refine wp_seq_k (fun K14 k14 => ?_)
  refine gsD [.det (.int .i64 0)] [0] [0] (fun L d => [.slice p 48 c, .int .i64 48] ++ (D d 2 6 ++ ([.slice (some ⟨kb3b2, 0, none⟩) 48 cb3b2, .int .u8 (g 0 / 32), .int .i64 0] ++ D d 11 42))) (fun L => [(kb3b2, BC (su g 0 (g 0 % 32)) 48)]) hp8 ⟨
    oA,
    trivial⟩ (fun L8 d8 w9 hp9 => ?_)
  refine k14 _ _ ?_
  refine wp_block_k (fun K15 k15 => ?_)
  refine wp_loop_ghost (hdI48 p c g w kb3b2 cb3b2) 48 ⟨0, d8, rfl, by omega, fun j hj => absurd hj (by omega), fun hj => absurd hj (by omega), hp9⟩ ?_
  rintro L a' W ⟨i, d, rfl, hL, hz, hs7, hJ⟩
  rcases Nat.lt_or_ge i 48 with hi | hi
  · skip
    by_cases hx : (su g 0 (g 0 % 32)) i = 0
    · skip
      by_cases h7 : g 0 / 32 = 7
      · skip
        refine wp_seq_k (fun K16 k16 => ?_)
        refine wp_seq_k (fun K17 k17 => ?_)
        refine gsD [.det (.int .i64 (i : Int)), .det (.int .i64 48), .det (.bool true)] [0, 1, 2] [0, 0, 3] (fun L d => [.slice p 48 c, .int .i64 48] ++ (D d 2 6 ++ ([.slice (some ⟨kb3b2, 0, none⟩) 48 cb3b2, .int .u8 (g 0 / 32), .int .i64 (i : Int)] ++ (D d 11 27 ++ ([.bool true] ++ D d 39 14))))) (fun L => [(kb3b2, BC (su g 0 (g 0 % 32)) 48)]) hJ ⟨
          oM, oM, oJ .i64 .i64 (i : Int) 48 (h := fun w => (lssI _ _ _ w).trans (by rw [decide_eq_true (by omega)])),
          trivial⟩ (fun L9 d9 w10 hp10 => ?_)
        refine k17 _ _ ?_
        refine wp_cond_true (by kernel_rfl) ?_
        refine skips ?_
        refine k16 _ _ ?_
        refine wp_seq_k (fun K18 k18 => ?_)
        refine wp_block_k (fun K19 k19 => ?_)
        refine wp_seq_k (fun K20 k20 => ?_)
        refine gsD [.det (.slice (some ⟨kb3b2, 0, none⟩) 48 cb3b2), .det (.int .i64 (i : Int)), .det (.pointer (some ⟨kb3b2, 0 + i * 1, none⟩)), .det (.int .u8 ((su g 0 (g 0 % 32)) i)), .det (.bool false), .det (.bool false), .det (.int .u8 (g 0 / 32)), .det (.bool true), .det (.bool true)] [0, 1, 2, 3, 4, 5, 6, 7, 8] [0, 0, 3, 7, 15, 31, 63, 127, 255] (fun L d => [.slice p 48 c, .int .i64 48] ++ (D d 2 6 ++ ([.slice (some ⟨kb3b2, 0, none⟩) 48 cb3b2, .int .u8 (g 0 / 32), .int .i64 (i : Int)] ++ (D d 11 38 ++ ([.bool true] ++ D d 50 3))))) (fun L => [(kb3b2, BC (su g 0 (g 0 % 32)) 48)]) hp10 ⟨
          oM, oM, oIS (n := 48) (c := cb3b2) i Tryz.underlying45 sizeY hi, oLY 0 hi, oJ .u8 .u8 ((su g 0 (g 0 % 32)) i) 0 (h := fun w => (neqI _ _ _ _ w).trans (by rw [decide_eq_true hx]; rfl)),
          oM, oM, oJ .u8 .u8 (g 0 / 32) 7 (h := fun w => (eqlI _ _ _ _ w).trans (by rw [decide_eq_true h7])), oP,
          trivial⟩ (fun L10 d10 w11 hp11 => ?_)
        refine k20 _ _ ?_
        refine wp_cond_true (by kernel_rfl) ?_
        refine wp_seq_k (fun K21 k21 => ?_)
        refine gsD [.det (.slice none 0 0), .det (.bool false), .det (.bool false), .det (.int .i64 3)] [0, 1, 2, 3] [0, 1, 3, 7] (fun L d => [.slice p 48 c, .int .i64 48] ++ (D d 2 2 ++ ([.slice none 0 0, .bool false, .bool false, .int .i64 3, .slice (some ⟨kb3b2, 0, none⟩) 48 cb3b2, .int .u8 (g 0 / 32), .int .i64 (i : Int)] ++ D d 11 42))) (fun L => [(kb3b2, BC (su g 0 (g 0 % 32)) 48)]) hp11 ⟨
          oA, oA, oA, oA,
          trivial⟩ (fun L11 d11 w12 hp12 => ?_)
        refine k21 _ _ ?_
        refine wp_ret ?_
        refine k19 _ _ _ ?_
        refine k15 _ _ _ ?_
        refine bodyPost_ret (v := .tuple #[.slice none 0 0, .bool false, .bool false, .int .i64 3]) ?_ rfl ?_
        · exact res_4 rfl (by kernel_rfl) (by kernel_rfl) (by kernel_rfl) (by kernel_rfl) _
        · exact ⟨hd_bad (fun h => h.2 h7), hp12.bel⟩
      · skip
        refine wp_seq_k (fun K22 k22 => ?_)
        refine wp_seq_k (fun K23 k23 => ?_)
        refine gsD [.det (.int .i64 (i : Int)), .det (.int .i64 48), .det (.bool true)] [0, 1, 2] [0, 0, 3] (fun L d => [.slice p 48 c, .int .i64 48] ++ (D d 2 6 ++ ([.slice (some ⟨kb3b2, 0, none⟩) 48 cb3b2, .int .u8 (g 0 / 32), .int .i64 (i : Int)] ++ (D d 11 27 ++ ([.bool true] ++ D d 39 14))))) (fun L => [(kb3b2, BC (su g 0 (g 0 % 32)) 48)]) hJ ⟨
          oM, oM, oJ .i64 .i64 (i : Int) 48 (h := fun w => (lssI _ _ _ w).trans (by rw [decide_eq_true (by omega)])),
          trivial⟩ (fun L12 d12 w13 hp13 => ?_)
        refine k23 _ _ ?_
        refine wp_cond_true (by kernel_rfl) ?_
        refine skips ?_
        refine k22 _ _ ?_
        refine wp_seq_k (fun K24 k24 => ?_)
        refine wp_block_k (fun K25 k25 => ?_)
        refine wp_seq_k (fun K26 k26 => ?_)
        refine gsD [.det (.slice (some ⟨kb3b2, 0, none⟩) 48 cb3b2), .det (.int .i64 (i : Int)), .det (.pointer (some ⟨kb3b2, 0 + i * 1, none⟩)), .det (.int .u8 ((su g 0 (g 0 % 32)) i)), .det (.bool false), .det (.bool false), .det (.int .u8 (g 0 / 32)), .det (.bool false), .det (.bool false)] [0, 1, 2, 3, 4, 5, 6, 7, 8] [0, 0, 3, 7, 15, 31, 63, 127, 255] (fun L d => [.slice p 48 c, .int .i64 48] ++ (D d 2 6 ++ ([.slice (some ⟨kb3b2, 0, none⟩) 48 cb3b2, .int .u8 (g 0 / 32), .int .i64 (i : Int)] ++ (D d 11 38 ++ ([.bool false] ++ D d 50 3))))) (fun L => [(kb3b2, BC (su g 0 (g 0 % 32)) 48)]) hp13 ⟨
          oM, oM, oIS (n := 48) (c := cb3b2) i Tryz.underlying45 sizeY hi, oLY 0 hi, oJ .u8 .u8 ((su g 0 (g 0 % 32)) i) 0 (h := fun w => (neqI _ _ _ _ w).trans (by rw [decide_eq_true hx]; rfl)),
          oM, oM, oJ .u8 .u8 (g 0 / 32) 7 (h := fun w => (eqlI _ _ _ _ w).trans (by rw [decide_eq_false h7])), oP,
          trivial⟩ (fun L13 d13 w14 hp14 => ?_)
        refine k26 _ _ ?_
        refine wp_cond_false (by kernel_rfl) ?_
        refine skips ?_
        refine k25 _ _ _ ?_
        refine block_normal ?_
        refine k24 _ _ ?_
        refine gsD [.det (.int .i64 (i : Int)), .det (.int .i64 ((i + 1 : Nat) : Int)), .det (.int .i64 ((i + 1 : Nat) : Int))] [0, 1, 2] [0, 1, 3] (fun L d => [.slice p 48 c, .int .i64 48] ++ (D d 2 6 ++ ([.slice (some ⟨kb3b2, 0, none⟩) 48 cb3b2, .int .u8 (g 0 / 32), .int .i64 ((i + 1 : Nat) : Int)] ++ D d 11 42))) (fun L => [(kb3b2, BC (su g 0 (g 0 % 32)) 48)]) hp14 ⟨
          oM, oJ .i64 .i64 (i : Int) 1 (h := fun w => add1N _ i (by omega) w), oA,
          trivial⟩ (fun L14 d14 w15 hp15 => ?_)
        exact ⟨L - 1, by omega, i + 1, d14, rfl, by omega, hd_more hz hx, fun _ => h7, hp15⟩
    · skip
      refine wp_seq_k (fun K27 k27 => ?_)
      refine wp_seq_k (fun K28 k28 => ?_)
      refine gsD [.det (.int .i64 (i : Int)), .det (.int .i64 48), .det (.bool true)] [0, 1, 2] [0, 0, 3] (fun L d => [d 0, .int .i64 48] ++ (D d 2 6 ++ ([.slice (some ⟨kb3b2, 0, none⟩) 48 cb3b2, d 9, .int .i64 (i : Int)] ++ (D d 11 27 ++ ([.bool true] ++ D d 39 14))))) (fun L => [(kb3b2, BC (su g 0 (g 0 % 32)) 48)]) hJ ⟨
        oM, oM, oJ .i64 .i64 (i : Int) 48 (h := fun w => (lssI _ _ _ w).trans (by rw [decide_eq_true (by omega)])),
        trivial⟩ (fun L15 d15 w16 hp16 => ?_)
      refine k28 _ _ ?_
      refine wp_cond_true (by kernel_rfl) ?_
      refine skips ?_
      refine k27 _ _ ?_
      refine wp_seq_k (fun K29 k29 => ?_)
      refine wp_block_k (fun K30 k30 => ?_)
      refine wp_seq_k (fun K31 k31 => ?_)
      refine gsD [.det (.slice (some ⟨kb3b2, 0, none⟩) 48 cb3b2), .det (.int .i64 (i : Int)), .det (.pointer (some ⟨kb3b2, 0 + i * 1, none⟩)), .det (.int .u8 ((su g 0 (g 0 % 32)) i)), .det (.bool true), .det (.bool true), .det undef, .det undef, .det (.bool true)] [0, 1, 2, 3, 4, 5, 6, 7, 8] [0, 0, 3, 7, 15, 31, 63, 127, 255] (fun L d => [d 0, .int .i64 48] ++ (D d 2 8 ++ ([.int .i64 (i : Int)] ++ (D d 11 38 ++ ([.bool true] ++ D d 50 3))))) (fun L => [(kb3b2, BC (su g 0 (g 0 % 32)) 48)]) hp16 ⟨
        oM, oM, oIS (n := 48) (c := cb3b2) i Tryz.underlying45 sizeY hi, oLY 0 hi, oJ .u8 .u8 ((su g 0 (g 0 % 32)) i) 0 (h := fun w => (neqI _ _ _ _ w).trans (by rw [decide_eq_false hx]; rfl)),
        oM, oS, oS, oP,
        trivial⟩ (fun L16 d16 w17 hp17 => ?_)
      refine k31 _ _ ?_
      refine wp_cond_true (by kernel_rfl) ?_
      refine wp_seq_k (fun K32 k32 => ?_)
      refine gsD [.det (.slice none 0 0), .det (.bool false), .det (.bool false), .det (.int .i64 3)] [0, 1, 2, 3] [0, 1, 3, 7] (fun L d => [d 0, .int .i64 48] ++ (D d 2 2 ++ ([.slice none 0 0, .bool false, .bool false, .int .i64 3] ++ (D d 8 2 ++ ([.int .i64 (i : Int)] ++ D d 11 42))))) (fun L => [(kb3b2, BC (su g 0 (g 0 % 32)) 48)]) hp17 ⟨
        oA, oA, oA, oA,
        trivial⟩ (fun L17 d17 w18 hp18 => ?_)
      refine k32 _ _ ?_
      refine wp_ret ?_
      refine k30 _ _ _ ?_
      refine k15 _ _ _ ?_
      refine bodyPost_ret (v := .tuple #[.slice none 0 0, .bool false, .bool false, .int .i64 3]) ?_ rfl ?_
      · exact res_4 rfl (by kernel_rfl) (by kernel_rfl) (by kernel_rfl) (by kernel_rfl) _
      · exact ⟨hd_bad (fun h => hx (h.1 i hi)), hp18.bel⟩
  obtain rfl : i = 48 := by omega
  refine wp_seq_k (fun K33 k33 => ?_)
  refine wp_seq_k (fun K34 k34 => ?_)
  refine gsD [.det (.int .i64 ((48 : Nat) : Int)), .det (.int .i64 48), .det (.bool false)] [0, 1, 2] [0, 0, 3] (fun L d => D d 0 38 ++ ([.bool false] ++ D d 39 14)) (fun L => [(kb3b2, BC (su g 0 (g 0 % 32)) 48)]) hJ ⟨
    oM, oM, oJ .i64 .i64 ((48 : Nat) : Int) 48 (h := fun w => (lssI _ _ _ w).trans (by rw [decide_eq_false (by omega)])),
    trivial⟩ (fun L18 d18 w19 hp19 => ?_)
  refine k34 _ _ ?_
  refine wp_cond_false (by kernel_rfl) ?_
  refine wp_exit ?_
  refine then_exit ?_
  refine then_exit ?_
  refine k15 _ _ _ ?_
  refine exit_in ?_
  refine k13 _ _ ?_
  refine wp_seq_k (fun K35 k35 => ?_)
  refine gsD [.det (.slice none 0 0), .det (.bool true), .det (.bool false), .det (.int .i64 0)] [0, 1, 2, 3] [0, 1, 3, 7] (fun L d => D d 0 4 ++ ([.slice none 0 0, .bool true, .bool false, .int .i64 0] ++ D d 8 45)) (fun L => [(kb3b2, BC (su g 0 (g 0 % 32)) 48)]) hp19 ⟨
    oA, oA, oA, oA,
    trivial⟩ (fun L19 d19 w20 hp20 => ?_)
  refine k35 _ _ ?_
  refine wp_ret ?_
  refine bodyPost_ret (v := .tuple #[.slice none 0 0, .bool true, .bool false, .int .i64 0]) ?_ rfl ?_
  · exact res_4 rfl (by kernel_rfl) (by kernel_rfl) (by kernel_rfl) (by kernel_rfl) _
  · exact ⟨hd_good (by omega) hz (hs7 (by decide)), hp20.bel⟩
set_option maxHeartbeats 4000000 in
theorem ref5hdLow96 (p : Option Addr) (c : Nat) (g : Nat → Int) (w : World) (hb : AtK .u8 w p 96 g) (r0 : 0 ≤ g 0) (hl : g 0 / 32 < 4) : Calls Tryz.prog 57 #[.slice p 96 c, .int .i64 96] w (Ret (.tuple #[.slice none 0 0, .bool false, .bool false, .int .i64 3]) w) := by
  have hp0 := Heap.start w
  go_enter Tryz.func57, Tryz.ntmps57
  refine wp_seq_k (fun K1 k1 => ?_)
  refine gsD [.det (.slice none 0 0), .det (.bool false), .det (.bool false), .det (.int .i64 0)] [0, 1, 2, 3] [0, 1, 3, 7] (fun L d => [.slice p 96 c, .int .i64 96] ++ D d 2 51) (fun L => []) hp0 ⟨
    oA, oA, oA, oA,
    trivial⟩ (fun L0 d0 w1 hp1 => ?_)
  refine k1 _ _ ?_
  refine wp_seq_k (fun K2 k2 => ?_)
  refine wp_seq_k (fun K3 k3 => ?_)
  refine gsD [.det (.slice p 96 c), .det (.int .i64 96), .det (.int .i64 96), .det (.bool false)] [0, 1, 2, 3] [0, 1, 0, 7] (fun L d => [.slice p 96 c, .int .i64 96] ++ (D d 2 12 ++ ([.bool false] ++ D d 15 38))) (fun L => []) hp1 ⟨
    oM, fun h => ⟨ob_len (p := p) (n := 96) (c := c) (fun _ => rfl) h rfl (fun _ => by kernel_rfl) Tryz.underlying45⟩, oM, oJ .i64 .i64 96 96,
    trivial⟩ (fun L1 d1 w2 hp2 => ?_)
  refine k3 _ _ ?_
  refine wp_cond_false (by kernel_rfl) ?_
  refine skips ?_
  refine k2 _ _ ?_
  refine wp_seq_k (fun K4 k4 => ?_)
  refine wp_seq_k (fun K5 k5 => ?_)
  refine gsD [.det (.slice p 96 c), .det (.int .i64 96), .det (.int .i64 96), .det (.bool false)] [0, 1, 2, 3] [0, 1, 0, 7] (fun L d => [.slice p 96 c] ++ (D d 1 17 ++ ([.bool false] ++ D d 19 34))) (fun L => []) hp2 ⟨
    oM, fun h => ⟨ob_len (p := p) (n := 96) (c := c) (fun _ => rfl) h rfl (fun _ => by kernel_rfl) Tryz.underlying45⟩, oM, oJ .i64 .i64 96 96,
    trivial⟩ (fun L2 d2 w3 hp3 => ?_)
  refine k5 _ _ ?_
  refine wp_cond_false (by kernel_rfl) ?_
  refine skips ?_
  refine k4 _ _ ?_
  refine wp_seq_k (fun K6 k6 => ?_)
  refine gsA [.any isE, .det (.slice p 96 c), .any (isB w.heap.size [] g 96), .detV 2 (fun v => v)] [0, 1, 2, 3] [0, 0, 3, 7] (fun L => [.slice p 96 c] ++ (D d2 1 7 ++ ([L.v 2] ++ (D d2 9 9 ++ ([.bool false, L.v 0, .slice p 96 c, L.v 2] ++ D d2 22 31))))) (fun L => []) hp3 ⟨
    oE0, oM, oApE (n := 96) (c := c) [] 0 (by decide) (by decide) hb, oAV,
    trivial⟩ (fun L3 w4 hp4 ha4 => ?_)
  obtain ⟨kb3b2, cb3b2, eb3b2, lb3b2, mb3b2, qb3b2, ub3b2, xb3b2⟩ := AnyF.at ha4 (j := 2) rfl rfl
  rw [eb3b2]
  have hp43b2 := Heap.add hp4 qb3b2 ub3b2 xb3b2
  refine k6 _ _ ?_
  refine wp_seq_k (fun K7 k7 => ?_)
  refine gsD [.det (.slice (some ⟨kb3b2, 0, none⟩) 96 cb3b2), .det (pt kb3b2 0), .det (.int .u8 (g 0)), .det (.int .u8 (g 0 / 32)), .det (.int .u8 (g 0 / 32))] [0, 1, 2, 3, 4] [0, 1, 3, 7, 15] (fun L d => D d 0 8 ++ ([.slice (some ⟨kb3b2, 0, none⟩) 96 cb3b2, .int .u8 (g 0 / 32)] ++ D d 10 43)) (fun L => [(kb3b2, BC g 96)]) hp43b2 ⟨
    oM, oIS (b := kb3b2) (off := 0) (n := 96) (c := cb3b2) (sz := 1) 0 Tryz.underlying45 sizeY (by decide), oL1 0 0 oneY, oJ .u8 .u64 (g 0) 5 (h := fun w => shrY _ _ _ 5 rfl (by decide) w),
    oA,
    trivial⟩ (fun L4 d4 w5 hp5 => ?_)
  refine k7 _ _ ?_
  refine wp_seq_k (fun K8 k8 => ?_)
  refine gsD [.det (.slice (some ⟨kb3b2, 0, none⟩) 96 cb3b2), .det (.slice (some ⟨kb3b2, 0, none⟩) 96 cb3b2), .det (pt kb3b2 0), .det (.int .u8 (g 0)), .det (.int .u8 (g 0 % 32)), .det (pt kb3b2 0), .store (.base 0) 0 ([.int .u8 (g 0 % 32)]) (BC (su g 0 (g 0 % 32)) 96)] [0, 1, 2, 3, 4, 5, 6] [0, 0, 2, 6, 14, 31, 63] (fun L d => D d 0 9 ++ ([.int .u8 (g 0 / 32)] ++ D d 10 43)) (fun L => [(kb3b2, BC (su g 0 (g 0 % 32)) 96)]) hp5 ⟨
    oM, oM, oIS (b := kb3b2) (off := 0) (n := 96) (c := cb3b2) (sz := 1) 0 Tryz.underlying45 sizeY (by decide), oL1 0 0 oneY, oJ .u8 .u8 (g 0) 32 (h := fun w => remY _ _ _ _ rfl r0 (by decide) w),
    oIS (b := kb3b2) (off := 0) (n := 96) (c := cb3b2) (sz := 1) 0 Tryz.underlying45 sizeY (by decide), oT1 oneY,
    trivial⟩ (fun L5 d5 w6 hp6 => ?_)
  refine k8 _ _ ?_
  refine wp_seq_k (fun K9 k9 => ?_)
  refine wp_seq_k (fun K10 k10 => ?_)
  refine gsD [.det (.int .u8 (g 0 / 32)), .det (.bool true)] [0, 1] [0, 1] (fun L d => D d 0 33 ++ ([.bool true] ++ D d 34 19)) (fun L => [(kb3b2, BC (su g 0 (g 0 % 32)) 96)]) hp6 ⟨
    oM, oJ .u8 .u8 (g 0 / 32) 4 (h := fun w => (lssY _ _ _ w).trans (by rw [decide_eq_true hl])),
    trivial⟩ (fun L6 d6 w7 hp7 => ?_)
  refine k10 _ _ ?_
  refine wp_cond_true (by kernel_rfl) ?_
  refine wp_seq_k (fun K11 k11 => ?_)
  refine gsD [.det (.slice none 0 0), .det (.bool false), .det (.bool false), .det (.int .i64 3)] [0, 1, 2, 3] [0, 1, 3, 7] (fun L d => D d 0 4 ++ ([.slice none 0 0, .bool false, .bool false, .int .i64 3] ++ D d 8 45)) (fun L => [(kb3b2, BC (su g 0 (g 0 % 32)) 96)]) hp7 ⟨
    oA, oA, oA, oA,
    trivial⟩ (fun L7 d7 w8 hp8 => ?_)
  refine k11 _ _ ?_
  refine wp_ret ?_
  refine bodyPost_ret (v := .tuple #[.slice none 0 0, .bool false, .bool false, .int .i64 3]) ?_ rfl ?_
  · exact res_4 rfl (by kernel_rfl) (by kernel_rfl) (by kernel_rfl) (by kernel_rfl) _
  · exact ⟨rfl, hp8.bel⟩
set_option maxHeartbeats 4000000 in
theorem ref5hdShort96 (p : Option Addr) (n c : Nat) (w : World) (hn : n < 96) : Calls Tryz.prog 57 #[.slice p n c, .int .i64 96] w (Ret (.tuple #[.slice none 0 0, .bool false, .bool false, .int .i64 2]) w) := by
  have hp0 := Heap.start w
  go_enter Tryz.func57, Tryz.ntmps57
  refine wp_seq_k (fun K1 k1 => ?_)
  refine gsD [.det (.slice none 0 0), .det (.bool false), .det (.bool false), .det (.int .i64 0)] [0, 1, 2, 3] [0, 1, 3, 7] (fun L d => [.slice p n c, .int .i64 96] ++ D d 2 51) (fun L => []) hp0 ⟨
    oA, oA, oA, oA,
    trivial⟩ (fun L0 d0 w1 hp1 => ?_)
  refine k1 _ _ ?_
  refine wp_seq_k (fun K2 k2 => ?_)
  refine wp_seq_k (fun K3 k3 => ?_)
  refine gsD [.det (.slice p n c), .det (.int .i64 n), .det (.int .i64 96), .det (.bool true)] [0, 1, 2, 3] [0, 1, 0, 7] (fun L d => D d 0 14 ++ ([.bool true] ++ D d 15 38)) (fun L => []) hp1 ⟨
    oM, fun h => ⟨ob_len (p := p) (n := n) (c := c) (fun _ => rfl) h rfl (fun _ => by kernel_rfl) Tryz.underlying45⟩, oM, oJ .i64 .i64 n 96 (h := fun w => (lssI _ _ _ w).trans (by rw [decide_eq_true (by omega)])),
    trivial⟩ (fun L1 d1 w2 hp2 => ?_)
  refine k3 _ _ ?_
  refine wp_cond_true (by kernel_rfl) ?_
  refine wp_seq_k (fun K4 k4 => ?_)
  refine gsD [.det (.slice none 0 0), .det (.bool false), .det (.bool false), .det (.int .i64 2)] [0, 1, 2, 3] [0, 1, 3, 7] (fun L d => D d 0 4 ++ ([.slice none 0 0, .bool false, .bool false, .int .i64 2] ++ D d 8 45)) (fun L => []) hp2 ⟨
    oA, oA, oA, oA,
    trivial⟩ (fun L2 d2 w3 hp3 => ?_)
  refine k4 _ _ ?_
  refine wp_ret ?_
  refine bodyPost_ret (v := .tuple #[.slice none 0 0, .bool false, .bool false, .int .i64 2]) ?_ rfl ?_
  · exact res_4 rfl (by kernel_rfl) (by kernel_rfl) (by kernel_rfl) (by kernel_rfl) _
  · exact ⟨rfl, hp3.bel⟩
set_option maxHeartbeats 4000000 in
theorem ref5hdLong96 (p : Option Addr) (n c : Nat) (w : World) (hn : 96 < n) : Calls Tryz.prog 57 #[.slice p n c, .int .i64 96] w (Ret (.tuple #[.slice none 0 0, .bool false, .bool false, .int .i64 8]) w) := by
  have hp0 := Heap.start w
  go_enter Tryz.func57, Tryz.ntmps57
  refine wp_seq_k (fun K1 k1 => ?_)
  refine gsD [.det (.slice none 0 0), .det (.bool false), .det (.bool false), .det (.int .i64 0)] [0, 1, 2, 3] [0, 1, 3, 7] (fun L d => [.slice p n c, .int .i64 96] ++ D d 2 51) (fun L => []) hp0 ⟨
    oA, oA, oA, oA,
    trivial⟩ (fun L0 d0 w1 hp1 => ?_)
  refine k1 _ _ ?_
  refine wp_seq_k (fun K2 k2 => ?_)
  refine wp_seq_k (fun K3 k3 => ?_)
  refine gsD [.det (.slice p n c), .det (.int .i64 n), .det (.int .i64 96), .det (.bool false)] [0, 1, 2, 3] [0, 1, 0, 7] (fun L d => [.slice p n c, .int .i64 96] ++ (D d 2 12 ++ ([.bool false] ++ D d 15 38))) (fun L => []) hp1 ⟨
    oM, fun h => ⟨ob_len (p := p) (n := n) (c := c) (fun _ => rfl) h rfl (fun _ => by kernel_rfl) Tryz.underlying45⟩, oM, oJ .i64 .i64 n 96 (h := fun w => (lssI _ _ _ w).trans (by rw [decide_eq_false (by omega)])),
    trivial⟩ (fun L1 d1 w2 hp2 => ?_)
  refine k3 _ _ ?_
  refine wp_cond_false (by kernel_rfl) ?_
  refine skips ?_
  refine k2 _ _ ?_
  refine wp_seq_k (fun K4 k4 => ?_)
  refine wp_seq_k (fun K5 k5 => ?_)
  refine gsD [.det (.slice p n c), .det (.int .i64 n), .det (.int .i64 96), .det (.bool true)] [0, 1, 2, 3] [0, 1, 0, 7] (fun L d => D d 0 18 ++ ([.bool true] ++ D d 19 34)) (fun L => []) hp2 ⟨
    oM, fun h => ⟨ob_len (p := p) (n := n) (c := c) (fun _ => rfl) h rfl (fun _ => by kernel_rfl) Tryz.underlying45⟩, oM, oJ .i64 .i64 n 96 (h := fun w => (gtrI _ _ _ w).trans (by rw [decide_eq_true (by omega)])),
    trivial⟩ (fun L2 d2 w3 hp3 => ?_)
  refine k5 _ _ ?_
  refine wp_cond_true (by kernel_rfl) ?_
  refine wp_seq_k (fun K6 k6 => ?_)
  refine gsD [.det (.slice none 0 0), .det (.bool false), .det (.bool false), .det (.int .i64 8)] [0, 1, 2, 3] [0, 1, 3, 7] (fun L d => D d 0 4 ++ ([.slice none 0 0, .bool false, .bool false, .int .i64 8] ++ D d 8 45)) (fun L => []) hp3 ⟨
    oA, oA, oA, oA,
    trivial⟩ (fun L3 d3 w4 hp4 => ?_)
  refine k6 _ _ ?_
  refine wp_ret ?_
  refine bodyPost_ret (v := .tuple #[.slice none 0 0, .bool false, .bool false, .int .i64 8]) ?_ rfl ?_
  · exact res_4 rfl (by kernel_rfl) (by kernel_rfl) (by kernel_rfl) (by kernel_rfl) _
  · exact ⟨rfl, hp4.bel⟩
set_option maxHeartbeats 4000000 in
theorem ref5hdOk96 (p : Option Addr) (c : Nat) (g : Nat → Int) (w : World) (hb : AtK .u8 w p 96 g) (r0 : 0 ≤ g 0) (hl : ¬ g 0 / 32 < 4) (h6 : ¬ 6 ≤ g 0 / 32) : Calls Tryz.prog 57 #[.slice p 96 c, .int .i64 96] w (RetT (fun s => .tuple #[s, .bool false, .bool (decide (g 0 / 32 = 5)), .int .i64 0]) (su g 0 (g 0 % 32)) 96 w) := by
  have hp0 := Heap.start w
  go_enter Tryz.func57, Tryz.ntmps57
  refine wp_seq_k (fun K1 k1 => ?_)
  refine gsD [.det (.slice none 0 0), .det (.bool false), .det (.bool false), .det (.int .i64 0)] [0, 1, 2, 3] [0, 1, 3, 7] (fun L d => [.slice p 96 c, .int .i64 96] ++ D d 2 51) (fun L => []) hp0 ⟨
    oA, oA, oA, oA,
    trivial⟩ (fun L0 d0 w1 hp1 => ?_)
  refine k1 _ _ ?_
  refine wp_seq_k (fun K2 k2 => ?_)
  refine wp_seq_k (fun K3 k3 => ?_)
  refine gsD [.det (.slice p 96 c), .det (.int .i64 96), .det (.int .i64 96), .det (.bool false)] [0, 1, 2, 3] [0, 1, 0, 7] (fun L d => [.slice p 96 c, .int .i64 96] ++ (D d 2 12 ++ ([.bool false] ++ D d 15 38))) (fun L => []) hp1 ⟨
    oM, fun h => ⟨ob_len (p := p) (n := 96) (c := c) (fun _ => rfl) h rfl (fun _ => by kernel_rfl) Tryz.underlying45⟩, oM, oJ .i64 .i64 96 96,
    trivial⟩ (fun L1 d1 w2 hp2 => ?_)
  refine k3 _ _ ?_
  refine wp_cond_false (by kernel_rfl) ?_
  refine skips ?_
  refine k2 _ _ ?_
  refine wp_seq_k (fun K4 k4 => ?_)
  refine wp_seq_k (fun K5 k5 => ?_)
  refine gsD [.det (.slice p 96 c), .det (.int .i64 96), .det (.int .i64 96), .det (.bool false)] [0, 1, 2, 3] [0, 1, 0, 7] (fun L d => [.slice p 96 c] ++ (D d 1 17 ++ ([.bool false] ++ D d 19 34))) (fun L => []) hp2 ⟨
    oM, fun h => ⟨ob_len (p := p) (n := 96) (c := c) (fun _ => rfl) h rfl (fun _ => by kernel_rfl) Tryz.underlying45⟩, oM, oJ .i64 .i64 96 96,
    trivial⟩ (fun L2 d2 w3 hp3 => ?_)
  refine k5 _ _ ?_
  refine wp_cond_false (by kernel_rfl) ?_
  refine skips ?_
  refine k4 _ _ ?_
  refine wp_seq_k (fun K6 k6 => ?_)
  refine gsA [.any isE, .det (.slice p 96 c), .any (isB w.heap.size [] g 96), .detV 2 (fun v => v)] [0, 1, 2, 3] [0, 0, 3, 7] (fun L => [.slice p 96 c] ++ (D d2 1 7 ++ ([L.v 2] ++ (D d2 9 9 ++ ([.bool false, L.v 0, .slice p 96 c, L.v 2] ++ D d2 22 31))))) (fun L => []) hp3 ⟨
    oE0, oM, oApE (n := 96) (c := c) [] 0 (by decide) (by decide) hb, oAV,
    trivial⟩ (fun L3 w4 hp4 ha4 => ?_)
  obtain ⟨kb3b2, cb3b2, eb3b2, lb3b2, mb3b2, qb3b2, ub3b2, xb3b2⟩ := AnyF.at ha4 (j := 2) rfl rfl
  rw [eb3b2]
  have hp43b2 := Heap.add hp4 qb3b2 ub3b2 xb3b2
  refine k6 _ _ ?_
  refine wp_seq_k (fun K7 k7 => ?_)
  refine gsD [.det (.slice (some ⟨kb3b2, 0, none⟩) 96 cb3b2), .det (pt kb3b2 0), .det (.int .u8 (g 0)), .det (.int .u8 (g 0 / 32)), .det (.int .u8 (g 0 / 32))] [0, 1, 2, 3, 4] [0, 1, 3, 7, 15] (fun L d => D d 0 8 ++ ([.slice (some ⟨kb3b2, 0, none⟩) 96 cb3b2, .int .u8 (g 0 / 32)] ++ D d 10 43)) (fun L => [(kb3b2, BC g 96)]) hp43b2 ⟨
    oM, oIS (b := kb3b2) (off := 0) (n := 96) (c := cb3b2) (sz := 1) 0 Tryz.underlying45 sizeY (by decide), oL1 0 0 oneY, oJ .u8 .u64 (g 0) 5 (h := fun w => shrY _ _ _ 5 rfl (by decide) w),
    oA,
    trivial⟩ (fun L4 d4 w5 hp5 => ?_)
  refine k7 _ _ ?_
  refine wp_seq_k (fun K8 k8 => ?_)
  refine gsD [.det (.slice (some ⟨kb3b2, 0, none⟩) 96 cb3b2), .det (.slice (some ⟨kb3b2, 0, none⟩) 96 cb3b2), .det (pt kb3b2 0), .det (.int .u8 (g 0)), .det (.int .u8 (g 0 % 32)), .det (pt kb3b2 0), .store (.base 0) 0 ([.int .u8 (g 0 % 32)]) (BC (su g 0 (g 0 % 32)) 96)] [0, 1, 2, 3, 4, 5, 6] [0, 0, 2, 6, 14, 31, 63] (fun L d => D d 0 8 ++ ([.slice (some ⟨kb3b2, 0, none⟩) 96 cb3b2, .int .u8 (g 0 / 32)] ++ D d 10 43)) (fun L => [(kb3b2, BC (su g 0 (g 0 % 32)) 96)]) hp5 ⟨
    oM, oM, oIS (b := kb3b2) (off := 0) (n := 96) (c := cb3b2) (sz := 1) 0 Tryz.underlying45 sizeY (by decide), oL1 0 0 oneY, oJ .u8 .u8 (g 0) 32 (h := fun w => remY _ _ _ _ rfl r0 (by decide) w),
    oIS (b := kb3b2) (off := 0) (n := 96) (c := cb3b2) (sz := 1) 0 Tryz.underlying45 sizeY (by decide), oT1 oneY,
    trivial⟩ (fun L5 d5 w6 hp6 => ?_)
  refine k8 _ _ ?_
  refine wp_seq_k (fun K9 k9 => ?_)
  refine wp_seq_k (fun K10 k10 => ?_)
  refine gsD [.det (.int .u8 (g 0 / 32)), .det (.bool false)] [0, 1] [0, 1] (fun L d => D d 0 8 ++ ([.slice (some ⟨kb3b2, 0, none⟩) 96 cb3b2, .int .u8 (g 0 / 32)] ++ (D d 10 23 ++ ([.bool false] ++ D d 34 19)))) (fun L => [(kb3b2, BC (su g 0 (g 0 % 32)) 96)]) hp6 ⟨
    oM, oJ .u8 .u8 (g 0 / 32) 4 (h := fun w => (lssY _ _ _ w).trans (by rw [decide_eq_false hl])),
    trivial⟩ (fun L6 d6 w7 hp7 => ?_)
  refine k10 _ _ ?_
  refine wp_cond_false (by kernel_rfl) ?_
  refine skips ?_
  refine k9 _ _ ?_
  refine wp_seq_k (fun K11 k11 => ?_)
  refine wp_seq_k (fun K12 k12 => ?_)
  refine gsD [.det (.int .u8 (g 0 / 32)), .det (.bool false)] [0, 1] [0, 1] (fun L d => D d 0 8 ++ ([.slice (some ⟨kb3b2, 0, none⟩) 96 cb3b2, .int .u8 (g 0 / 32)] ++ (D d 10 25 ++ ([.bool false] ++ D d 36 17)))) (fun L => [(kb3b2, BC (su g 0 (g 0 % 32)) 96)]) hp7 ⟨
    oM, oJ .u8 .u8 (g 0 / 32) 6 (h := fun w => (geqY _ _ _ w).trans (by rw [decide_eq_false h6])),
    trivial⟩ (fun L7 d7 w8 hp8 => ?_)
  refine k12 _ _ ?_
  refine wp_cond_false (by kernel_rfl) ?_
  refine skips ?_
  refine k11 _ _ ?_
  refine wp_seq_k (fun K13 k13 => ?_)
  refine gsD [.det (.slice (some ⟨kb3b2, 0, none⟩) 96 cb3b2), .det (.int .u8 (g 0 / 32)), .det (.bool (decide (g 0 / 32 = 5))), .det (.slice (some ⟨kb3b2, 0, none⟩) 96 cb3b2), .det (.bool false), .det (.bool (decide (g 0 / 32 = 5))), .det (.int .i64 0)] [0, 1, 2, 3, 4, 5, 6] [0, 0, 2, 1, 9, 31, 63] (fun L d => D d 0 4 ++ ([.slice (some ⟨kb3b2, 0, none⟩) 96 cb3b2, .bool false, .bool (decide (g 0 / 32 = 5)), .int .i64 0] ++ D d 8 45)) (fun L => [(kb3b2, BC (su g 0 (g 0 % 32)) 96)]) hp8 ⟨
    oM, oM, oJ .u8 .u8 (g 0 / 32) 5 (h := fun w => eqlI _ _ _ _ w), oA, oA, oA, oA,
    trivial⟩ (fun L8 d8 w9 hp9 => ?_)
  refine k13 _ _ ?_
  refine wp_ret ?_
  refine bodyPost_ret (v := .tuple #[.slice (some ⟨kb3b2, 0, none⟩) 96 cb3b2, .bool false, .bool (decide (g 0 / 32 = 5)), .int .i64 0]) ?_ rfl ?_
  · exact res_4 rfl (by kernel_rfl) (by kernel_rfl) (by kernel_rfl) (by kernel_rfl) _
  · exact ⟨_, rfl, ⟨_, rfl, kb3b2, cb3b2, rfl, lb3b2, mb3b2, qb3b2, (fun b hb => by cases hb), (hp9.bound 0 rfl).2⟩, hp9.bel⟩
def hdI96 (p : Option Addr) (c : Nat) (g : Nat → Int) (w : World) (k cp : Nat) : Nat → Act → World → Prop := fun L a' w' => ∃ (i : Nat) (d : Nat → Value), a' = { tmps := ([.slice p 96 c, .int .i64 96] ++ (D d 2 6 ++ ([.slice (some ⟨k, 0, none⟩) 96 cp, .int .u8 (g 0 / 32), .int .i64 (i : Int)] ++ D d 11 42)) : List Value).toArray, defers := [] } ∧ i + L = 96 ∧ (∀ j, j < i → (su g 0 (g 0 % 32)) j = 0) ∧ (0 < i → ¬ g 0 / 32 = 7) ∧ Heap w.heap.size w w' [(k, BC (su g 0 (g 0 % 32)) 96)]
set_option maxHeartbeats 4000000 in
theorem ref5hdBig96 (p : Option Addr) (c : Nat) (g : Nat → Int) (w : World) (hb : AtK .u8 w p 96 g) (r0 : 0 ≤ g 0) (hl : ¬ g 0 / 32 < 4) (h6 : 6 ≤ g 0 / 32) : Calls Tryz.prog 57 #[.slice p 96 c, .int .i64 96] w (Ret (bif hdz g 96 then .tuple #[.slice none 0 0, .bool true, .bool false, .int .i64 0] else .tuple #[.slice none 0 0, .bool false, .bool false, .int .i64 3]) w) := by
  have hp0 := Heap.start w
  go_enter Tryz.func57, Tryz.ntmps57
  refine wp_seq_k (fun K1 k1 => ?_)
  refine gsD [.det (.slice none 0 0), .det (.bool false), .det (.bool false), .det (.int .i64 0)] [0, 1, 2, 3] [0, 1, 3, 7] (fun L d => [.slice p 96 c, .int .i64 96] ++ D d 2 51) (fun L => []) hp0 ⟨
    oA, oA, oA, oA,
    trivial⟩ (fun L0 d0 w1 hp1 => ?_)
  refine k1 _ _ ?_
  refine wp_seq_k (fun K2 k2 => ?_)
  refine wp_seq_k (fun K3 k3 => ?_)
  refine gsD [.det (.slice p 96 c), .det (.int .i64 96), .det (.int .i64 96), .det (.bool false)] [0, 1, 2, 3] [0, 1, 0, 7] (fun L d => [.slice p 96 c, .int .i64 96] ++ (D d 2 12 ++ ([.bool false] ++ D d 15 38))) (fun L => []) hp1 ⟨
    oM, fun h => ⟨ob_len (p := p) (n := 96) (c := c) (fun _ => rfl) h rfl (fun _ => by kernel_rfl) Tryz.underlying45⟩, oM, oJ .i64 .i64 96 96,
    trivial⟩ (fun L1 d1 w2 hp2 => ?_)
  refine k3 _ _ ?_
  refine wp_cond_false (by kernel_rfl) ?_
  refine skips ?_
  refine k2 _ _ ?_
  refine wp_seq_k (fun K4 k4 => ?_)
  refine wp_seq_k (fun K5 k5 => ?_)
  refine gsD [.det (.slice p 96 c), .det (.int .i64 96), .det (.int .i64 96), .det (.bool false)] [0, 1, 2, 3] [0, 1, 0, 7] (fun L d => [.slice p 96 c, .int .i64 96] ++ (D d 2 16 ++ ([.bool false] ++ D d 19 34))) (fun L => []) hp2 ⟨
    oM, fun h => ⟨ob_len (p := p) (n := 96) (c := c) (fun _ => rfl) h rfl (fun _ => by kernel_rfl) Tryz.underlying45⟩, oM, oJ .i64 .i64 96 96,
    trivial⟩ (fun L2 d2 w3 hp3 => ?_)
  refine k5 _ _ ?_
  refine wp_cond_false (by kernel_rfl) ?_
  refine skips ?_
  refine k4 _ _ ?_
  refine wp_seq_k (fun K6 k6 => ?_)
  refine gsA [.any isE, .det (.slice p 96 c), .any (isB w.heap.size [] g 96), .detV 2 (fun v => v)] [0, 1, 2, 3] [0, 0, 3, 7] (fun L => [.slice p 96 c, .int .i64 96] ++ (D d2 2 6 ++ ([L.v 2] ++ (D d2 9 9 ++ ([.bool false, L.v 0, .slice p 96 c, L.v 2] ++ D d2 22 31))))) (fun L => []) hp3 ⟨
    oE0, oM, oApE (n := 96) (c := c) [] 0 (by decide) (by decide) hb, oAV,
    trivial⟩ (fun L3 w4 hp4 ha4 => ?_)
  obtain ⟨kb3b2, cb3b2, eb3b2, lb3b2, mb3b2, qb3b2, ub3b2, xb3b2⟩ := AnyF.at ha4 (j := 2) rfl rfl
  rw [eb3b2]
  have hp43b2 := Heap.add hp4 qb3b2 ub3b2 xb3b2
  refine k6 _ _ ?_
  refine wp_seq_k (fun K7 k7 => ?_)
  refine gsD [.det (.slice (some ⟨kb3b2, 0, none⟩) 96 cb3b2), .det (pt kb3b2 0), .det (.int .u8 (g 0)), .det (.int .u8 (g 0 / 32)), .det (.int .u8 (g 0 / 32))] [0, 1, 2, 3, 4] [0, 1, 3, 7, 15] (fun L d => [.slice p 96 c, .int .i64 96] ++ (D d 2 6 ++ ([.slice (some ⟨kb3b2, 0, none⟩) 96 cb3b2, .int .u8 (g 0 / 32)] ++ D d 10 43))) (fun L => [(kb3b2, BC g 96)]) hp43b2 ⟨
    oM, oIS (b := kb3b2) (off := 0) (n := 96) (c := cb3b2) (sz := 1) 0 Tryz.underlying45 sizeY (by decide), oL1 0 0 oneY, oJ .u8 .u64 (g 0) 5 (h := fun w => shrY _ _ _ 5 rfl (by decide) w),
    oA,
    trivial⟩ (fun L4 d4 w5 hp5 => ?_)
  refine k7 _ _ ?_
  refine wp_seq_k (fun K8 k8 => ?_)
  refine gsD [.det (.slice (some ⟨kb3b2, 0, none⟩) 96 cb3b2), .det (.slice (some ⟨kb3b2, 0, none⟩) 96 cb3b2), .det (pt kb3b2 0), .det (.int .u8 (g 0)), .det (.int .u8 (g 0 % 32)), .det (pt kb3b2 0), .store (.base 0) 0 ([.int .u8 (g 0 % 32)]) (BC (su g 0 (g 0 % 32)) 96)] [0, 1, 2, 3, 4, 5, 6] [0, 0, 2, 6, 14, 31, 63] (fun L d => [.slice p 96 c, .int .i64 96] ++ (D d 2 6 ++ ([.slice (some ⟨kb3b2, 0, none⟩) 96 cb3b2, .int .u8 (g 0 / 32)] ++ D d 10 43))) (fun L => [(kb3b2, BC (su g 0 (g 0 % 32)) 96)]) hp5 ⟨
    oM, oM, oIS (b := kb3b2) (off := 0) (n := 96) (c := cb3b2) (sz := 1) 0 Tryz.underlying45 sizeY (by decide), oL1 0 0 oneY, oJ .u8 .u8 (g 0) 32 (h := fun w => remY _ _ _ _ rfl r0 (by decide) w),
    oIS (b := kb3b2) (off := 0) (n := 96) (c := cb3b2) (sz := 1) 0 Tryz.underlying45 sizeY (by decide), oT1 oneY,
    trivial⟩ (fun L5 d5 w6 hp6 => ?_)
  refine k8 _ _ ?_
  refine wp_seq_k (fun K9 k9 => ?_)
  refine wp_seq_k (fun K10 k10 => ?_)
  refine gsD [.det (.int .u8 (g 0 / 32)), .det (.bool false)] [0, 1] [0, 1] (fun L d => [.slice p 96 c, .int .i64 96] ++ (D d 2 6 ++ ([.slice (some ⟨kb3b2, 0, none⟩) 96 cb3b2, .int .u8 (g 0 / 32)] ++ (D d 10 23 ++ ([.bool false] ++ D d 34 19))))) (fun L => [(kb3b2, BC (su g 0 (g 0 % 32)) 96)]) hp6 ⟨
    oM, oJ .u8 .u8 (g 0 / 32) 4 (h := fun w => (lssY _ _ _ w).trans (by rw [decide_eq_false hl])),
    trivial⟩ (fun L6 d6 w7 hp7 => ?_)
  refine k10 _ _ ?_
  refine wp_cond_false (by kernel_rfl) ?_
  refine skips ?_
  refine k9 _ _ ?_
  refine wp_seq_k (fun K11 k11 => ?_)
  refine wp_seq_k (fun K12 k12 => ?_)
  refine gsD [.det (.int .u8 (g 0 / 32)), .det (.bool true)] [0, 1] [0, 1] (fun L d => [.slice p 96 c, .int .i64 96] ++ (D d 2 6 ++ ([.slice (some ⟨kb3b2, 0, none⟩) 96 cb3b2, .int .u8 (g 0 / 32)] ++ (D d 10 25 ++ ([.bool true] ++ D d 36 17))))) (fun L => [(kb3b2, BC (su g 0 (g 0 % 32)) 96)]) hp7 ⟨
    oM, oJ .u8 .u8 (g 0 / 32) 6 (h := fun w => (geqY _ _ _ w).trans (by rw [decide_eq_true h6])),
    trivial⟩ (fun L7 d7 w8 hp8 => ?_)
  refine k12 _ _ ?_
  refine wp_cond_true (by kernel_rfl) ?_
  refine wp_seq_k (fun K13 k13 => ?_)
  refine wp_seq_k (fun K14 k14 => ?_)
  refine gsD [.det (.int .i64 0)] [0] [0] (fun L d => [.slice p 96 c, .int .i64 96] ++ (D d 2 6 ++ ([.slice (some ⟨kb3b2, 0, none⟩) 96 cb3b2, .int .u8 (g 0 / 32), .int .i64 0] ++ D d 11 42))) (fun L => [(kb3b2, BC (su g 0 (g 0 % 32)) 96)]) hp8 ⟨
    oA,
    trivial⟩ (fun L8 d8 w9 hp9 => ?_)
  refine k14 _ _ ?_
  refine wp_block_k (fun K15 k15 => ?_)
  refine wp_loop_ghost (hdI96 p c g w kb3b2 cb3b2) 96 ⟨0, d8, rfl, by omega, fun j hj => absurd hj (by omega), fun hj => absurd hj (by omega), hp9⟩ ?_
  rintro L a' W ⟨i, d, rfl, hL, hz, hs7, hJ⟩
  rcases Nat.lt_or_ge i 96 with hi | hi
  · skip
    by_cases hx : (su g 0 (g 0 % 32)) i = 0
    · skip
      by_cases h7 : g 0 / 32 = 7
      · skip
        refine wp_seq_k (fun K16 k16 => ?_)
        refine wp_seq_k (fun K17 k17 => ?_)
        refine gsD [.det (.int .i64 (i : Int)), .det (.int .i64 96), .det (.bool true)] [0, 1, 2] [0, 0, 3] (fun L d => [.slice p 96 c, .int .i64 96] ++ (D d 2 6 ++ ([.slice (some ⟨kb3b2, 0, none⟩) 96 cb3b2, .int .u8 (g 0 / 32), .int .i64 (i : Int)] ++ (D d 11 27 ++ ([.bool true] ++ D d 39 14))))) (fun L => [(kb3b2, BC (su g 0 (g 0 % 32)) 96)]) hJ ⟨
          oM, oM, oJ .i64 .i64 (i : Int) 96 (h := fun w => (lssI _ _ _ w).trans (by rw [decide_eq_true (by omega)])),
          trivial⟩ (fun L9 d9 w10 hp10 => ?_)
        refine k17 _ _ ?_
        refine wp_cond_true (by kernel_rfl) ?_
        refine skips ?_
        refine k16 _ _ ?_
        refine wp_seq_k (fun K18 k18 => ?_)
        refine wp_block_k (fun K19 k19 => ?_)
        refine wp_seq_k (fun K20 k20 => ?_)
        refine gsD [.det (.slice (some ⟨kb3b2, 0, none⟩) 96 cb3b2), .det (.int .i64 (i : Int)), .det (.pointer (some ⟨kb3b2, 0 + i * 1, none⟩)), .det (.int .u8 ((su g 0 (g 0 % 32)) i)), .det (.bool false), .det (.bool false), .det (.int .u8 (g 0 / 32)), .det (.bool true), .det (.bool true)] [0, 1, 2, 3, 4, 5, 6, 7, 8] [0, 0, 3, 7, 15, 31, 63, 127, 255] (fun L d => [.slice p 96 c, .int .i64 96] ++ (D d 2 6 ++ ([.slice (some ⟨kb3b2, 0, none⟩) 96 cb3b2, .int .u8 (g 0 / 32), .int .i64 (i : Int)] ++ (D d 11 38 ++ ([.bool true] ++ D d 50 3))))) (fun L => [(kb3b2, BC (su g 0 (g 0 % 32)) 96)]) hp10 ⟨
          oM, oM, oIS (n := 96) (c := cb3b2) i Tryz.underlying45 sizeY hi, oLY 0 hi, oJ .u8 .u8 ((su g 0 (g 0 % 32)) i) 0 (h := fun w => (neqI _ _ _ _ w).trans (by rw [decide_eq_true hx]; rfl)),
          oM, oM, oJ .u8 .u8 (g 0 / 32) 7 (h := fun w => (eqlI _ _ _ _ w).trans (by rw [decide_eq_true h7])), oP,
          trivial⟩ (fun L10 d10 w11 hp11 => ?_)
        refine k20 _ _ ?_
        refine wp_cond_true (by kernel_rfl) ?_
        refine wp_seq_k (fun K21 k21 => ?_)
        refine gsD [.det (.slice none 0 0), .det (.bool false), .det (.bool false), .det (.int .i64 3)] [0, 1, 2, 3] [0, 1, 3, 7] (fun L d => [.slice p 96 c, .int .i64 96] ++ (D d 2 2 ++ ([.slice none 0 0, .bool false, .bool false, .int .i64 3, .slice (some ⟨kb3b2, 0, none⟩) 96 cb3b2, .int .u8 (g 0 / 32), .int .i64 (i : Int)] ++ D d 11 42))) (fun L => [(kb3b2, BC (su g 0 (g 0 % 32)) 96)]) hp11 ⟨
          oA, oA, oA, oA,
          trivial⟩ (fun L11 d11 w12 hp12 => ?_)
        refine k21 _ _ ?_
        refine wp_ret ?_
        refine k19 _ _ _ ?_
        refine k15 _ _ _ ?_
        refine bodyPost_ret (v := .tuple #[.slice none 0 0, .bool false, .bool false, .int .i64 3]) ?_ rfl ?_
        · exact res_4 rfl (by kernel_rfl) (by kernel_rfl) (by kernel_rfl) (by kernel_rfl) _
        · exact ⟨hd_bad (fun h => h.2 h7), hp12.bel⟩
      · skip
        refine wp_seq_k (fun K22 k22 => ?_)
        refine wp_seq_k (fun K23 k23 => ?_)
        refine gsD [.det (.int .i64 (i : Int)), .det (.int .i64 96), .det (.bool true)] [0, 1, 2] [0, 0, 3] (fun L d => [.slice p 96 c, .int .i64 96] ++ (D d 2 6 ++ ([.slice (some ⟨kb3b2, 0, none⟩) 96 cb3b2, .int .u8 (g 0 / 32), .int .i64 (i : Int)] ++ (D d 11 27 ++ ([.bool true] ++ D d 39 14))))) (fun L => [(kb3b2, BC (su g 0 (g 0 % 32)) 96)]) hJ ⟨
          oM, oM, oJ .i64 .i64 (i : Int) 96 (h := fun w => (lssI _ _ _ w).trans (by rw [decide_eq_true (by omega)])),
          trivial⟩ (fun L12 d12 w13 hp13 => ?_)
        refine k23 _ _ ?_
        refine wp_cond_true (by kernel_rfl) ?_
        refine skips ?_
        refine k22 _ _ ?_
        refine wp_seq_k (fun K24 k24 => ?_)
        refine wp_block_k (fun K25 k25 => ?_)
        refine wp_seq_k (fun K26 k26 => ?_)
        refine gsD [.det (.slice (some ⟨kb3b2, 0, none⟩) 96 cb3b2), .det (.int .i64 (i : Int)), .det (.pointer (some ⟨kb3b2, 0 + i * 1, none⟩)), .det (.int .u8 ((su g 0 (g 0 % 32)) i)), .det (.bool false), .det (.bool false), .det (.int .u8 (g 0 / 32)), .det (.bool false), .det (.bool false)] [0, 1, 2, 3, 4, 5, 6, 7, 8] [0, 0, 3, 7, 15, 31, 63, 127, 255] (fun L d => [.slice p 96 c, .int .i64 96] ++ (D d 2 6 ++ ([.slice (some ⟨kb3b2, 0, none⟩) 96 cb3b2, .int .u8 (g 0 / 32), .int .i64 (i : Int)] ++ (D d 11 38 ++ ([.bool false] ++ D d 50 3))))) (fun L => [(kb3b2, BC (su g 0 (g 0 % 32)) 96)]) hp13 ⟨
          oM, oM, oIS (n := 96) (c := cb3b2) i Tryz.underlying45 sizeY hi, oLY 0 hi, oJ .u8 .u8 ((su g 0 (g 0 % 32)) i) 0 (h := fun w => (neqI _ _ _ _ w).trans (by rw [decide_eq_true hx]; rfl)),
          oM, oM, oJ .u8 .u8 (g 0 / 32) 7 (h := fun w => (eqlI _ _ _ _ w).trans (by rw [decide_eq_false h7])), oP,
          trivial⟩ (fun L13 d13 w14 hp14 => ?_)
        refine k26 _ _ ?_
        refine wp_cond_false (by kernel_rfl) ?_
        refine skips ?_
        refine k25 _ _ _ ?_
        refine block_normal ?_
        refine k24 _ _ ?_
        refine gsD [.det (.int .i64 (i : Int)), .det (.int .i64 ((i + 1 : Nat) : Int)), .det (.int .i64 ((i + 1 : Nat) : Int))] [0, 1, 2] [0, 1, 3] (fun L d => [.slice p 96 c, .int .i64 96] ++ (D d 2 6 ++ ([.slice (some ⟨kb3b2, 0, none⟩) 96 cb3b2, .int .u8 (g 0 / 32), .int .i64 ((i + 1 : Nat) : Int)] ++ D d 11 42))) (fun L => [(kb3b2, BC (su g 0 (g 0 % 32)) 96)]) hp14 ⟨
          oM, oJ .i64 .i64 (i : Int) 1 (h := fun w => add1N _ i (by omega) w), oA,
          trivial⟩ (fun L14 d14 w15 hp15 => ?_)
        exact ⟨L - 1, by omega, i + 1, d14, rfl, by omega, hd_more hz hx, fun _ => h7, hp15⟩
    · skip
      refine wp_seq_k (fun K27 k27 => ?_)
      refine wp_seq_k (fun K28 k28 => ?_)
      refine gsD [.det (.int .i64 (i : Int)), .det (.int .i64 96), .det (.bool true)] [0, 1, 2] [0, 0, 3] (fun L d => [d 0, .int .i64 96] ++ (D d 2 6 ++ ([.slice (some ⟨kb3b2, 0, none⟩) 96 cb3b2, d 9, .int .i64 (i : Int)] ++ (D d 11 27 ++ ([.bool true] ++ D d 39 14))))) (fun L => [(kb3b2, BC (su g 0 (g 0 % 32)) 96)]) hJ ⟨
        oM, oM, oJ .i64 .i64 (i : Int) 96 (h := fun w => (lssI _ _ _ w).trans (by rw [decide_eq_true (by omega)])),
        trivial⟩ (fun L15 d15 w16 hp16 => ?_)
      refine k28 _ _ ?_
      refine wp_cond_true (by kernel_rfl) ?_
      refine skips ?_
      refine k27 _ _ ?_
      refine wp_seq_k (fun K29 k29 => ?_)
      refine wp_block_k (fun K30 k30 => ?_)
      refine wp_seq_k (fun K31 k31 => ?_)
      refine gsD [.det (.slice (some ⟨kb3b2, 0, none⟩) 96 cb3b2), .det (.int .i64 (i : Int)), .det (.pointer (some ⟨kb3b2, 0 + i * 1, none⟩)), .det (.int .u8 ((su g 0 (g 0 % 32)) i)), .det (.bool true), .det (.bool true), .det undef, .det undef, .det (.bool true)] [0, 1, 2, 3, 4, 5, 6, 7, 8] [0, 0, 3, 7, 15, 31, 63, 127, 255] (fun L d => [d 0, .int .i64 96] ++ (D d 2 8 ++ ([.int .i64 (i : Int)] ++ (D d 11 38 ++ ([.bool true] ++ D d 50 3))))) (fun L => [(kb3b2, BC (su g 0 (g 0 % 32)) 96)]) hp16 ⟨
        oM, oM, oIS (n := 96) (c := cb3b2) i Tryz.underlying45 sizeY hi, oLY 0 hi, oJ .u8 .u8 ((su g 0 (g 0 % 32)) i) 0 (h := fun w => (neqI _ _ _ _ w).trans (by rw [decide_eq_false hx]; rfl)),
        oM, oS, oS, oP,
        trivial⟩ (fun L16 d16 w17 hp17 => ?_)
      refine k31 _ _ ?_
      refine wp_cond_true (by kernel_rfl) ?_
      refine wp_seq_k (fun K32 k32 => ?_)
      refine gsD [.det (.slice none 0 0), .det (.bool false), .det (.bool false), .det (.int .i64 3)] [0, 1, 2, 3] [0, 1, 3, 7] (fun L d => [d 0, .int .i64 96] ++ (D d 2 2 ++ ([.slice none 0 0, .bool false, .bool false, .int .i64 3] ++ (D d 8 2 ++ ([.int .i64 (i : Int)] ++ D d 11 42))))) (fun L => [(kb3b2, BC (su g 0 (g 0 % 32)) 96)]) hp17 ⟨
        oA, oA, oA, oA,
        trivial⟩ (fun L17 d17 w18 hp18 => ?_)
      refine k32 _ _ ?_
      refine wp_ret ?_
      refine k30 _ _ _ ?_
      refine k15 _ _ _ ?_
      refine bodyPost_ret (v := .tuple #[.slice none 0 0, .bool false, .bool false, .int .i64 3]) ?_ rfl ?_
      · exact res_4 rfl (by kernel_rfl) (by kernel_rfl) (by kernel_rfl) (by kernel_rfl) _
      · exact ⟨hd_bad (fun h => hx (h.1 i hi)), hp18.bel⟩
  obtain rfl : i = 96 := by omega
  refine wp_seq_k (fun K33 k33 => ?_)
  refine wp_seq_k (fun K34 k34 => ?_)
  refine gsD [.det (.int .i64 ((96 : Nat) : Int)), .det (.int .i64 96), .det (.bool false)] [0, 1, 2] [0, 0, 3] (fun L d => D d 0 38 ++ ([.bool false] ++ D d 39 14)) (fun L => [(kb3b2, BC (su g 0 (g 0 % 32)) 96)]) hJ ⟨
    oM, oM, oJ .i64 .i64 ((96 : Nat) : Int) 96 (h := fun w => (lssI _ _ _ w).trans (by rw [decide_eq_false (by omega)])),
    trivial⟩ (fun L18 d18 w19 hp19 => ?_)
  refine k34 _ _ ?_
  refine wp_cond_false (by kernel_rfl) ?_
  refine wp_exit ?_
  refine then_exit ?_
  refine then_exit ?_
  refine k15 _ _ _ ?_
  refine exit_in ?_
  refine k13 _ _ ?_
  refine wp_seq_k (fun K35 k35 => ?_)
  refine gsD [.det (.slice none 0 0), .det (.bool true), .det (.bool false), .det (.int .i64 0)] [0, 1, 2, 3] [0, 1, 3, 7] (fun L d => D d 0 4 ++ ([.slice none 0 0, .bool true, .bool false, .int .i64 0] ++ D d 8 45)) (fun L => [(kb3b2, BC (su g 0 (g 0 % 32)) 96)]) hp19 ⟨
    oA, oA, oA, oA,
    trivial⟩ (fun L19 d19 w20 hp20 => ?_)
  refine k35 _ _ ?_
  refine wp_ret ?_
  refine bodyPost_ret (v := .tuple #[.slice none 0 0, .bool true, .bool false, .int .i64 0]) ?_ rfl ?_
  · exact res_4 rfl (by kernel_rfl) (by kernel_rfl) (by kernel_rfl) (by kernel_rfl) _
  · exact ⟨hd_good (by omega) hz (hs7 (by decide)), hp20.bel⟩
end Go.Proofs.YtmibajbpimcfnaaGreatDoor.fpn

/- The reference's Take1. -/
namespace Go.Proofs.YtmibajbpimcfnaaGreatDoor.fpn
open Go.RowKit Pl EC
set_option linter.unusedVariables false
set_option linter.unusedSimpArgs false
set_option maxRecDepth 4000

theorem on_rt {a c y : F} (hc : c = a * a * a + 4) (hq : isq c = true) (hy : y = root c) : y * y = a * a * a + 4 := by rw [hy, ← hc]; exact root_sq hq
theorem on_rn {a c y z : F} (hc : c = a * a * a + 4) (hq : isq c = true) (hy : y = root c) (hz : z = -y) : z * z = a * a * a + 4 := by
  rw [← on_rt hc hq hy, hz]; grind
set_option maxHeartbeats 4000000 in
theorem ref5Take1ok (R : RefK) (p : Option Addr) (c : Nat) (g f : Nat → Int) (a : F) (gr : Bool) (w : World) (hb : AtK .u8 w p 48 g) (hH : ∀ w, AtK .u8 w p 48 g → Calls Tryz.prog 57 #[.slice p 48 c, .int .i64 48] w (RetT (fun s => .tuple #[s, .bool false, .bool gr, .int .i64 0]) f 48 w)) (rf : ∀ j, j < 48 → 0 ≤ f j ∧ f j < 256) (ha : bv f 48 = (a.val : Int)) : Calls Tryz.prog 24 #[.slice p 48 c] w (Ret (tk1 a gr) w) := by
  obtain ⟨n1, o1⟩ := nm (a * a : F)
  obtain ⟨n2, o2⟩ := nm (n1 * a : F)
  obtain ⟨n3, o3⟩ := nm (n2 + 4 : F)
  obtain ⟨n4, o4⟩ := nm (root n3 : F)
  obtain ⟨n5, o5⟩ := nm (-n4 : F)
  have fin0 : (isq n3) = true → (decide (n4 = 0)) = true → (gr) = true → Ending.returned (.tuple #[GV ⟨0, 0, false⟩, .int .i64 3]) = Ending.returned (tk1 a gr) := by subst_vars; intro h1q h2q h3q; unfold tk1; rw [h1q, h2q, h3q]; rfl
  have fin1 : (isq n3) = true → (decide (n4 = 0)) = true → (gr) = false → (decide (mul finv ordR (.aff a n4) = .inf)) = true → Ending.returned (.tuple #[GV ⟨a, n4, false⟩, .int .i64 0]) = Ending.returned (tk1 a gr) := by subst_vars; intro h1q h2q h3q h4q; unfold tk1; rw [h1q, h2q, h3q, h4q]; rfl
  have fin2 : (isq n3) = true → (decide (n4 = 0)) = true → (gr) = false → (decide (mul finv ordR (.aff a n4) = .inf)) = false → Ending.returned (.tuple #[GV ⟨0, 0, false⟩, .int .i64 6]) = Ending.returned (tk1 a gr) := by subst_vars; intro h1q h2q h3q h4q; unfold tk1; rw [h1q, h2q, h3q, h4q]; rfl
  have fin3 : (isq n3) = true → (decide (n4 = 0)) = false → (gr) = true → (decide (mul finv ordR (.aff a n5) = .inf)) = true → Ending.returned (.tuple #[GV ⟨a, n5, false⟩, .int .i64 0]) = Ending.returned (tk1 a gr) := by subst_vars; intro h1q h2q h3q h4q; unfold tk1; rw [h1q, h2q, h3q, h4q]; rfl
  have fin4 : (isq n3) = true → (decide (n4 = 0)) = false → (gr) = true → (decide (mul finv ordR (.aff a n5) = .inf)) = false → Ending.returned (.tuple #[GV ⟨0, 0, false⟩, .int .i64 6]) = Ending.returned (tk1 a gr) := by subst_vars; intro h1q h2q h3q h4q; unfold tk1; rw [h1q, h2q, h3q, h4q]; rfl
  have fin5 : (isq n3) = true → (decide (n4 = 0)) = false → (gr) = false → (decide (mul finv ordR (.aff a n4) = .inf)) = true → Ending.returned (.tuple #[GV ⟨a, n4, false⟩, .int .i64 0]) = Ending.returned (tk1 a gr) := by subst_vars; intro h1q h2q h3q h4q; unfold tk1; rw [h1q, h2q, h3q, h4q]; rfl
  have fin6 : (isq n3) = true → (decide (n4 = 0)) = false → (gr) = false → (decide (mul finv ordR (.aff a n4) = .inf)) = false → Ending.returned (.tuple #[GV ⟨0, 0, false⟩, .int .i64 6]) = Ending.returned (tk1 a gr) := by subst_vars; intro h1q h2q h3q h4q; unfold tk1; rw [h1q, h2q, h3q, h4q]; rfl
  have fin7 : (isq n3) = false → Ending.returned (.tuple #[GV ⟨0, 0, false⟩, .int .i64 5]) = Ending.returned (tk1 a gr) := by subst_vars; intro h1q; unfold tk1; rw [h1q]; rfl
  have hp0 := Heap.start w
  go_enter Tryz.func24, Tryz.ntmps24
  refine wp_seq_k (fun K1 k1 => ?_)
  refine gsD [.alloc (GC ⟨0, 0, false⟩), .det (.int .i64 0)] [0, 1] [0, 0] (fun L d => [.slice p 48 c, d 1, L.p 0] ++ D d 3 68) (fun L => [(L.b 0, GC ⟨0, 0, false⟩)]) hp0 ⟨
    oZ rG, oA,
    trivial⟩ (fun L0 d0 w1 hp1 => ?_)
  refine k1 _ _ ?_
  refine wp_seq_k (fun K2 k2 => ?_)
  refine gsA [.det (.slice p 48 c), .any (isT (fun s => .tuple #[s, .bool false, .bool gr, .int .i64 0]) w.heap.size [L0.b 0] f 48), .detV 1 (fun v => v), .detV 1 (tupAt 0), .det (.bool false), .det (.bool gr), .det (.int .i64 0), .detV 1 (tupAt 0), .det (.bool false), .det (.bool gr), .det (.int .i64 0)] [0, 1, 2, 3, 4, 5, 6, 7, 8, 9, 10] [0, 1, 3, 7, 7, 7, 7, 15, 159, 447, 1023] (fun L => [.slice p 48 c, d0 1, L0.p 0, d0 3, tupAt 0 (L.v 1), .bool false, .bool gr, .int .i64 0] ++ (D d0 8 3 ++ ([L.v 1, .slice p 48 c, L.v 1, tupAt 0 (L.v 1), .bool false, .bool gr, .int .i64 0] ++ D d0 18 53))) (fun L => [(L0.b 0, GC ⟨0, 0, false⟩)]) hp1 ⟨
    oM, oY (fun L => #[.slice p 48 c, .int .i64 48]) (fun _ _ _ h hb => h.stay hb) (fun L w hs => newT hs [L0.b 0] (hH w (AtK.below hb hs.bel))), oMV, oXS 1 (fun _ => rfl),
    oXT 1 (fun _ => rfl), oXT 1 (fun _ => rfl), oXT 1 (fun _ => rfl), oAX, oA, oA, oA,
    trivial⟩ (fun L1 w2 hp2 ha2 => ?_)
  obtain ⟨_, eb1b1, kb1b1, cb1b1, rfl, lb1b1, mb1b1, qb1b1, ub1b1, xb1b1⟩ := AnyF.at ha2 (j := 1) rfl rfl
  rw [eb1b1]
  have hp21b1 := Heap.add hp2 qb1b1 ub1b1 xb1b1
  refine k2 _ _ ?_
  refine wp_seq_k (fun K3 k3 => ?_)
  refine wp_seq_k (fun K4 k4 => ?_)
  refine gsD [.det (.int .i64 0), .det (.bool false), .det (.bool false), .det (.bool false), .det (.bool false)] [0, 1, 2, 3, 4] [0, 1, 3, 7, 15] (fun L d => D d 0 2 ++ ([L0.p 0, d 3, .slice (some ⟨kb1b1, 0, none⟩) 48 cb1b1, d 5, .bool gr] ++ (D d 7 15 ++ ([.bool false] ++ D d 23 48)))) (fun L => [(L0.b 0, GC ⟨0, 0, false⟩), (kb1b1, BC f 48)]) hp21b1 ⟨
    oM, oJ .i64 .i64 0 0 (h := fun w => (neqI _ _ _ _ w).trans rfl), oM, oM, oP,
    trivial⟩ (fun L2 d2 w3 hp3 => ?_)
  refine k4 _ _ ?_
  refine wp_cond_false (by kernel_rfl) ?_
  refine skips ?_
  refine k3 _ _ ?_
  refine wp_seq_k (fun K5 k5 => ?_)
  refine gsD [.alloc (GC ⟨0, 0, false⟩)] [0] [0] (fun L d => D d 0 2 ++ ([L0.p 0, d 3, .slice (some ⟨kb1b1, 0, none⟩) 48 cb1b1, d 5, .bool gr, d 7, L.p 0] ++ D d 9 62)) (fun L => [(L0.b 0, GC ⟨0, 0, false⟩), (kb1b1, BC f 48), (L.b 0, GC ⟨0, 0, false⟩)]) hp3 ⟨
    oZ rG,
    trivial⟩ (fun L3 d3 w4 hp4 => ?_)
  refine k5 _ _ ?_
  refine wp_seq_k (fun K6 k6 => ?_)
  refine gsD [.det (.slice (some ⟨kb1b1, 0, none⟩) 48 cb1b1), .det (.tuple #[FV a, .int .i64 0]), .det (.tuple #[FV a, .int .i64 0]), .det (FV a), .det (.int .i64 0), .det (L3.p 0), .store (.base 2) 0 (FC a) (GC ⟨a, 0, false⟩), .det (.int .i64 0)] [0, 1, 2, 3, 4, 5, 6, 7] [0, 1, 3, 7, 7, 15, 47, 127] (fun L d => D d 0 2 ++ ([L0.p 0] ++ (D d 3 3 ++ ([.bool gr, .int .i64 0, L3.p 0] ++ D d 9 62)))) (fun L => [(L0.b 0, GC ⟨0, 0, false⟩), (kb1b1, BC f 48), (L3.b 0, GC ⟨a, 0, false⟩)]) hp4 ⟨
    oM, oCS (fun L => #[.slice (some ⟨kb1b1, 0, none⟩) 48 cb1b1]) (fun L w hs => refTakeF f _ _ w (box_at (seen_at hs (k := 1) rfl)) rf a ha), oM, oX, oX, oF fG0,
    oT rF, oA,
    trivial⟩ (fun L4 d4 w5 hp5 => ?_)
  refine k6 _ _ ?_
  refine wp_seq_k (fun K7 k7 => ?_)
  refine wp_seq_k (fun K8 k8 => ?_)
  refine gsD [.det (.int .i64 0), .det (.bool false)] [0, 1] [0, 1] (fun L d => D d 0 2 ++ ([L0.p 0] ++ (D d 3 3 ++ ([.bool gr, d 7, L3.p 0] ++ (D d 9 24 ++ ([.bool false] ++ D d 34 37)))))) (fun L => [(L0.b 0, GC ⟨0, 0, false⟩), (kb1b1, BC f 48), (L3.b 0, GC ⟨a, 0, false⟩)]) hp5 ⟨
    oM, oJ .i64 .i64 0 0 (h := fun w => (neqI _ _ _ _ w).trans rfl),
    trivial⟩ (fun L5 d5 w6 hp6 => ?_)
  refine k8 _ _ ?_
  refine wp_cond_false (by kernel_rfl) ?_
  refine skips ?_
  refine k7 _ _ ?_
  refine wp_seq_k (fun K9 k9 => ?_)
  refine drD [.det (L3.p 0), .det (FV a), .det (L3.p 0), .det (FV a), .det (FV n1), .det (L3.p 0), .det (FV a), .det (FV n2), .det (FV 4), .det (FV n3), .det (.tuple #[FV n4, .bool (isq n3)]), .det (.tuple #[FV n4, .bool (isq n3)]), .det (FV n4), .det (.bool (isq n3)), .alloc (FC 0), .store (.new 14) 0 (FC n4) (FC n4), .det (.bool (isq n3))] [0, 1, 2, 3, 4, 5, 6, 7, 8, 9, 10, 11, 12, 13, 14, 15, 16] [0, 1, 0, 4, 15, 0, 32, 127, 255, 511, 1023, 2047, 4095, 4095, 0, 24575, 65535] (fun L d => D d 0 2 ++ ([L0.p 0] ++ (D d 3 3 ++ ([.bool gr, d 7, L3.p 0, L.p 14, .bool (isq n3)] ++ D d 11 60)))) (fun L => [(L0.b 0, GC ⟨0, 0, false⟩), (kb1b1, BC f 48), (L3.b 0, GC ⟨a, 0, false⟩), (L.b 14, FC n4)]) hp6 ⟨
    oF fG0, oL 2 0 rF, oF fG0, oL 2 0 rF, oR (nFR o1 (fun w => R.mul a a w trivial)), oF fG0, oL 2 0 rF, oR (nFR o2 (fun w => R.mul n1 a w trivial)), oR R.of4, oR (nFR o3 (fun w => R.add n2 4 w trivial)),
    oR (nTR o4 (fun w => R.sqrt n3 w trivial)), oM, oX, oX, oZ rF, oT rF, oA,
    trivial⟩ (fun L6 d6 w7 hp7 => ?_)
  refine k9 _ _ ?_
  refine wp_seq_k (fun K10 k10 => ?_)
  refine wp_seq_k (fun K11 k11 => ?_)
  refine gsD [.det (.bool (isq n3)), .det (.bool (!isq n3))] [0, 1] [0, 1] (fun L d => D d 0 2 ++ ([L0.p 0] ++ (D d 3 3 ++ ([.bool gr, d 7, L3.p 0, L6.p 14] ++ (D d 10 41 ++ ([.bool (!isq n3)] ++ D d 52 19)))))) (fun L => [(L0.b 0, GC ⟨0, 0, false⟩), (kb1b1, BC f 48), (L3.b 0, GC ⟨a, 0, false⟩), (L6.b 14, FC n4)]) hp7 ⟨
    oM, oN,
    trivial⟩ (fun L7 d7 w8 hp8 => ?_)
  refine k11 _ _ ?_
  rcases Bool.eq_false_or_eq_true (isq n3) with h1q | h1q
  · skip
    refine cond_f (nt_t h1q) ?_
    refine skips ?_
    refine k10 _ _ ?_
    refine wp_seq_k (fun K12 k12 => ?_)
    refine wp_seq_k (fun K13 k13 => ?_)
    rcases Bool.eq_false_or_eq_true (decide (n4 = 0)) with h2q | h2q
    · skip
      refine gsD [.det (FV n4), .det (FV 0), .det (.bool true), .det (.bool true), .det (.bool gr), .det (.bool gr)] [0, 1, 2, 3, 4, 5] [0, 0, 3, 7, 15, 31] (fun L d => D d 0 2 ++ ([L0.p 0] ++ (D d 3 3 ++ ([.bool gr, d 7, L3.p 0, L6.p 14] ++ (D d 10 48 ++ ([.bool gr] ++ D d 59 12)))))) (fun L => [(L0.b 0, GC ⟨0, 0, false⟩), (kb1b1, BC f 48), (L3.b 0, GC ⟨a, 0, false⟩), (L6.b 14, FC n4)]) hp8 ⟨
        oL 3 0 rF, oD buildF0, oE (a := n4) (b := 0) qF (yes (of_decide_eq_true h2q)), oM, oM, oP,
        trivial⟩ (fun L8 d8 w9 hp9 => ?_)
      refine k13 _ _ ?_
      rcases Bool.eq_false_or_eq_true (gr) with h3q | h3q
      · skip
        refine cond_t h3q ?_
        refine wp_seq_k (fun K14 k14 => ?_)
        refine gsD [.det (GV ⟨0, 0, false⟩), .store (.base 0) 0 (GC ⟨0, 0, false⟩) (GC ⟨0, 0, false⟩), .det (.int .i64 3)] [0, 1, 2] [0, 1, 3] (fun L d => D d 0 2 ++ ([L0.p 0, .int .i64 3] ++ D d 4 67)) (fun L => [(L0.b 0, GC ⟨0, 0, false⟩), (kb1b1, BC f 48), (L3.b 0, GC ⟨a, 0, false⟩), (L6.b 14, FC n4)]) hp9 ⟨
          oD buildGn, oT rG, oA,
          trivial⟩ (fun L9 d9 w10 hp10 => ?_)
        refine k14 _ _ ?_
        refine wp_ret ?_
        refine bodyPost_ret (v := .tuple #[GV ⟨0, 0, false⟩, .int .i64 3]) ?_ rfl ?_
        · exact rct rG rfl (by kernel_rfl) (by kernel_rfl) (hp10.bound 0 rfl).2
        · exact ⟨fin0 h1q h2q h3q, hp10.bel⟩
      · skip
        refine cond_f h3q ?_
        refine skips ?_
        refine k12 _ _ ?_
        refine wp_seq_k (fun K14 k14 => ?_)
        refine gsD [.det (FV n4), .det (pt (L3.b 0) 6), .store (.base 2) 6 (FC n4) (GC ⟨a, n4, false⟩)] [0, 1, 2] [0, 1, 3] (fun L d => D d 0 2 ++ ([L0.p 0] ++ (D d 3 3 ++ ([.bool gr, d 7, L3.p 0] ++ D d 9 62)))) (fun L => [(L0.b 0, GC ⟨0, 0, false⟩), (kb1b1, BC f 48), (L3.b 0, GC ⟨a, n4, false⟩), (L6.b 14, FC n4)]) hp9 ⟨
          oL 3 0 rF, oF fG1, oT rF,
          trivial⟩ (fun L9 d9 w10 hp10 => ?_)
        refine k14 _ _ ?_
        refine wp_seq_k (fun K15 k15 => ?_)
        refine wp_seq_k (fun K16 k16 => ?_)
        refine gsD [.det (.bool false)] [0] [0] (fun L d => D d 0 2 ++ ([L0.p 0] ++ (D d 3 5 ++ ([L3.p 0] ++ (D d 9 53 ++ ([.bool false] ++ D d 63 8)))))) (fun L => [(L0.b 0, GC ⟨0, 0, false⟩), (kb1b1, BC f 48), (L3.b 0, GC ⟨a, n4, false⟩), (L6.b 14, FC n4)]) hp10 ⟨
          oMB h3q,
          trivial⟩ (fun L10 d10 w11 hp11 => ?_)
        refine k16 _ _ ?_
        refine wp_cond_false (by kernel_rfl) ?_
        refine skips ?_
        refine k15 _ _ ?_
        refine wp_seq_k (fun K17 k17 => ?_)
        refine wp_seq_k (fun K18 k18 => ?_)
        refine gsD [.det (GV ⟨a, n4, false⟩), .det (.bool (decide (mul finv ordR (.aff a n4) = .inf))), .det (.bool (!decide (mul finv ordR (.aff a n4) = .inf)))] [0, 1, 2] [0, 1, 3] (fun L d => D d 0 2 ++ ([L0.p 0] ++ (D d 3 5 ++ ([L3.p 0] ++ (D d 9 59 ++ ([.bool (!decide (mul finv ordR (.aff a n4) = .inf))] ++ D d 69 2)))))) (fun L => [(L0.b 0, GC ⟨0, 0, false⟩), (kb1b1, BC f 48), (L3.b 0, GC ⟨a, n4, false⟩), (L6.b 14, FC n4)]) hp11 ⟨
          oL 2 0 rG, oH (v := .bool (decide (mul finv ordR (.aff a n4) = .inf))) (vs := #[GV ⟨a, n4, false⟩]) (fun w _ _ => ref5In1 R (.aff a n4) w (on_rt (by rw [o3, o2, o1]) h1q o4)),
          oN,
          trivial⟩ (fun L11 d11 w12 hp12 => ?_)
        refine k18 _ _ ?_
        rcases Bool.eq_false_or_eq_true (decide (mul finv ordR (.aff a n4) = .inf)) with h4q | h4q
        · skip
          refine cond_f (nt_t h4q) ?_
          refine skips ?_
          refine k17 _ _ ?_
          refine wp_seq_k (fun K19 k19 => ?_)
          refine gsD [.det (GV ⟨a, n4, false⟩), .store (.base 0) 0 (GC ⟨a, n4, false⟩) (GC ⟨a, n4, false⟩), .det (.int .i64 0)] [0, 1, 2] [0, 1, 3] (fun L d => D d 0 2 ++ ([L0.p 0, .int .i64 0] ++ D d 4 67)) (fun L => [(L0.b 0, GC ⟨a, n4, false⟩), (kb1b1, BC f 48), (L3.b 0, GC ⟨a, n4, false⟩), (L6.b 14, FC n4)]) hp12 ⟨
            oL 2 0 rG, oT rG, oA,
            trivial⟩ (fun L12 d12 w13 hp13 => ?_)
          refine k19 _ _ ?_
          refine wp_ret ?_
          refine bodyPost_ret (v := .tuple #[GV ⟨a, n4, false⟩, .int .i64 0]) ?_ rfl ?_
          · exact rct rG rfl (by kernel_rfl) (by kernel_rfl) (hp13.bound 0 rfl).2
          · exact ⟨fin1 h1q h2q h3q h4q, hp13.bel⟩
        · skip
          refine cond_t (nt_f h4q) ?_
          refine wp_seq_k (fun K19 k19 => ?_)
          refine gsD [.det (GV ⟨0, 0, false⟩), .store (.base 0) 0 (GC ⟨0, 0, false⟩) (GC ⟨0, 0, false⟩), .det (.int .i64 6)] [0, 1, 2] [0, 1, 3] (fun L d => D d 0 2 ++ ([L0.p 0, .int .i64 6] ++ D d 4 67)) (fun L => [(L0.b 0, GC ⟨0, 0, false⟩), (kb1b1, BC f 48), (L3.b 0, GC ⟨a, n4, false⟩), (L6.b 14, FC n4)]) hp12 ⟨
            oD buildGn, oT rG, oA,
            trivial⟩ (fun L12 d12 w13 hp13 => ?_)
          refine k19 _ _ ?_
          refine wp_ret ?_
          refine bodyPost_ret (v := .tuple #[GV ⟨0, 0, false⟩, .int .i64 6]) ?_ rfl ?_
          · exact rct rG rfl (by kernel_rfl) (by kernel_rfl) (hp13.bound 0 rfl).2
          · exact ⟨fin2 h1q h2q h3q h4q, hp13.bel⟩
    · skip
      refine gsD [.det (FV n4), .det (FV 0), .det (.bool false), .det (.bool false), .det undef, .det (.bool false)] [0, 1, 2, 3, 4, 5] [0, 0, 3, 7, 15, 31] (fun L d => D d 0 2 ++ ([L0.p 0] ++ (D d 3 3 ++ ([.bool gr, d 7, L3.p 0, L6.p 14] ++ (D d 10 48 ++ ([.bool false] ++ D d 59 12)))))) (fun L => [(L0.b 0, GC ⟨0, 0, false⟩), (kb1b1, BC f 48), (L3.b 0, GC ⟨a, 0, false⟩), (L6.b 14, FC n4)]) hp8 ⟨
        oL 3 0 rF, oD buildF0, oE (a := n4) (b := 0) qF (nay (of_decide_eq_false h2q)), oM, oS, oP,
        trivial⟩ (fun L8 d8 w9 hp9 => ?_)
      refine k13 _ _ ?_
      refine wp_cond_false (by kernel_rfl) ?_
      refine skips ?_
      refine k12 _ _ ?_
      refine wp_seq_k (fun K14 k14 => ?_)
      refine gsD [.det (FV n4), .det (pt (L3.b 0) 6), .store (.base 2) 6 (FC n4) (GC ⟨a, n4, false⟩)] [0, 1, 2] [0, 1, 3] (fun L d => D d 0 2 ++ ([L0.p 0] ++ (D d 3 3 ++ ([.bool gr, d 7, L3.p 0, L6.p 14] ++ D d 10 61)))) (fun L => [(L0.b 0, GC ⟨0, 0, false⟩), (kb1b1, BC f 48), (L3.b 0, GC ⟨a, n4, false⟩), (L6.b 14, FC n4)]) hp9 ⟨
        oL 3 0 rF, oF fG1, oT rF,
        trivial⟩ (fun L9 d9 w10 hp10 => ?_)
      refine k14 _ _ ?_
      refine wp_seq_k (fun K15 k15 => ?_)
      refine wp_seq_k (fun K16 k16 => ?_)
      refine gsD [.det (.bool gr)] [0] [0] (fun L d => D d 0 2 ++ ([L0.p 0] ++ (D d 3 5 ++ ([L3.p 0, L6.p 14] ++ (D d 10 52 ++ ([.bool gr] ++ D d 63 8)))))) (fun L => [(L0.b 0, GC ⟨0, 0, false⟩), (kb1b1, BC f 48), (L3.b 0, GC ⟨a, n4, false⟩), (L6.b 14, FC n4)]) hp10 ⟨
        oM,
        trivial⟩ (fun L10 d10 w11 hp11 => ?_)
      refine k16 _ _ ?_
      rcases Bool.eq_false_or_eq_true (gr) with h3q | h3q
      · skip
        refine cond_t h3q ?_
        refine gsD [.det (FV n4), .det (FV n5), .det (pt (L3.b 0) 6), .store (.base 2) 6 (FC n5) (GC ⟨a, n5, false⟩)] [0, 1, 2, 3] [0, 1, 3, 7] (fun L d => D d 0 2 ++ ([L0.p 0] ++ (D d 3 5 ++ ([L3.p 0] ++ D d 9 62)))) (fun L => [(L0.b 0, GC ⟨0, 0, false⟩), (kb1b1, BC f 48), (L3.b 0, GC ⟨a, n5, false⟩), (L6.b 14, FC n4)]) hp11 ⟨
          oL 3 0 rF, oR (nFR o5 (fun w => R.neg n4 w trivial)), oF fG1, oT rF,
          trivial⟩ (fun L11 d11 w12 hp12 => ?_)
        refine k15 _ _ ?_
        refine wp_seq_k (fun K17 k17 => ?_)
        refine wp_seq_k (fun K18 k18 => ?_)
        refine gsD [.det (GV ⟨a, n5, false⟩), .det (.bool (decide (mul finv ordR (.aff a n5) = .inf))), .det (.bool (!decide (mul finv ordR (.aff a n5) = .inf)))] [0, 1, 2] [0, 1, 3] (fun L d => D d 0 2 ++ ([L0.p 0] ++ (D d 3 5 ++ ([L3.p 0] ++ (D d 9 59 ++ ([.bool (!decide (mul finv ordR (.aff a n5) = .inf))] ++ D d 69 2)))))) (fun L => [(L0.b 0, GC ⟨0, 0, false⟩), (kb1b1, BC f 48), (L3.b 0, GC ⟨a, n5, false⟩), (L6.b 14, FC n4)]) hp12 ⟨
          oL 2 0 rG, oH (v := .bool (decide (mul finv ordR (.aff a n5) = .inf))) (vs := #[GV ⟨a, n5, false⟩]) (fun w _ _ => ref5In1 R (.aff a n5) w (on_rn (by rw [o3, o2, o1]) h1q o4 o5)),
          oN,
          trivial⟩ (fun L12 d12 w13 hp13 => ?_)
        refine k18 _ _ ?_
        rcases Bool.eq_false_or_eq_true (decide (mul finv ordR (.aff a n5) = .inf)) with h4q | h4q
        · skip
          refine cond_f (nt_t h4q) ?_
          refine skips ?_
          refine k17 _ _ ?_
          refine wp_seq_k (fun K19 k19 => ?_)
          refine gsD [.det (GV ⟨a, n5, false⟩), .store (.base 0) 0 (GC ⟨a, n5, false⟩) (GC ⟨a, n5, false⟩), .det (.int .i64 0)] [0, 1, 2] [0, 1, 3] (fun L d => D d 0 2 ++ ([L0.p 0, .int .i64 0] ++ D d 4 67)) (fun L => [(L0.b 0, GC ⟨a, n5, false⟩), (kb1b1, BC f 48), (L3.b 0, GC ⟨a, n5, false⟩), (L6.b 14, FC n4)]) hp13 ⟨
            oL 2 0 rG, oT rG, oA,
            trivial⟩ (fun L13 d13 w14 hp14 => ?_)
          refine k19 _ _ ?_
          refine wp_ret ?_
          refine bodyPost_ret (v := .tuple #[GV ⟨a, n5, false⟩, .int .i64 0]) ?_ rfl ?_
          · exact rct rG rfl (by kernel_rfl) (by kernel_rfl) (hp14.bound 0 rfl).2
          · exact ⟨fin3 h1q h2q h3q h4q, hp14.bel⟩
        · skip
          refine cond_t (nt_f h4q) ?_
          refine wp_seq_k (fun K19 k19 => ?_)
          refine gsD [.det (GV ⟨0, 0, false⟩), .store (.base 0) 0 (GC ⟨0, 0, false⟩) (GC ⟨0, 0, false⟩), .det (.int .i64 6)] [0, 1, 2] [0, 1, 3] (fun L d => D d 0 2 ++ ([L0.p 0, .int .i64 6] ++ D d 4 67)) (fun L => [(L0.b 0, GC ⟨0, 0, false⟩), (kb1b1, BC f 48), (L3.b 0, GC ⟨a, n5, false⟩), (L6.b 14, FC n4)]) hp13 ⟨
            oD buildGn, oT rG, oA,
            trivial⟩ (fun L13 d13 w14 hp14 => ?_)
          refine k19 _ _ ?_
          refine wp_ret ?_
          refine bodyPost_ret (v := .tuple #[GV ⟨0, 0, false⟩, .int .i64 6]) ?_ rfl ?_
          · exact rct rG rfl (by kernel_rfl) (by kernel_rfl) (hp14.bound 0 rfl).2
          · exact ⟨fin4 h1q h2q h3q h4q, hp14.bel⟩
      · skip
        refine cond_f h3q ?_
        refine skips ?_
        refine k15 _ _ ?_
        refine wp_seq_k (fun K17 k17 => ?_)
        refine wp_seq_k (fun K18 k18 => ?_)
        refine gsD [.det (GV ⟨a, n4, false⟩), .det (.bool (decide (mul finv ordR (.aff a n4) = .inf))), .det (.bool (!decide (mul finv ordR (.aff a n4) = .inf)))] [0, 1, 2] [0, 1, 3] (fun L d => D d 0 2 ++ ([L0.p 0] ++ (D d 3 5 ++ ([L3.p 0] ++ (D d 9 59 ++ ([.bool (!decide (mul finv ordR (.aff a n4) = .inf))] ++ D d 69 2)))))) (fun L => [(L0.b 0, GC ⟨0, 0, false⟩), (kb1b1, BC f 48), (L3.b 0, GC ⟨a, n4, false⟩), (L6.b 14, FC n4)]) hp11 ⟨
          oL 2 0 rG, oH (v := .bool (decide (mul finv ordR (.aff a n4) = .inf))) (vs := #[GV ⟨a, n4, false⟩]) (fun w _ _ => ref5In1 R (.aff a n4) w (on_rt (by rw [o3, o2, o1]) h1q o4)),
          oN,
          trivial⟩ (fun L11 d11 w12 hp12 => ?_)
        refine k18 _ _ ?_
        rcases Bool.eq_false_or_eq_true (decide (mul finv ordR (.aff a n4) = .inf)) with h4q | h4q
        · skip
          refine cond_f (nt_t h4q) ?_
          refine skips ?_
          refine k17 _ _ ?_
          refine wp_seq_k (fun K19 k19 => ?_)
          refine gsD [.det (GV ⟨a, n4, false⟩), .store (.base 0) 0 (GC ⟨a, n4, false⟩) (GC ⟨a, n4, false⟩), .det (.int .i64 0)] [0, 1, 2] [0, 1, 3] (fun L d => D d 0 2 ++ ([L0.p 0, .int .i64 0] ++ D d 4 67)) (fun L => [(L0.b 0, GC ⟨a, n4, false⟩), (kb1b1, BC f 48), (L3.b 0, GC ⟨a, n4, false⟩), (L6.b 14, FC n4)]) hp12 ⟨
            oL 2 0 rG, oT rG, oA,
            trivial⟩ (fun L12 d12 w13 hp13 => ?_)
          refine k19 _ _ ?_
          refine wp_ret ?_
          refine bodyPost_ret (v := .tuple #[GV ⟨a, n4, false⟩, .int .i64 0]) ?_ rfl ?_
          · exact rct rG rfl (by kernel_rfl) (by kernel_rfl) (hp13.bound 0 rfl).2
          · exact ⟨fin5 h1q h2q h3q h4q, hp13.bel⟩
        · skip
          refine cond_t (nt_f h4q) ?_
          refine wp_seq_k (fun K19 k19 => ?_)
          refine gsD [.det (GV ⟨0, 0, false⟩), .store (.base 0) 0 (GC ⟨0, 0, false⟩) (GC ⟨0, 0, false⟩), .det (.int .i64 6)] [0, 1, 2] [0, 1, 3] (fun L d => D d 0 2 ++ ([L0.p 0, .int .i64 6] ++ D d 4 67)) (fun L => [(L0.b 0, GC ⟨0, 0, false⟩), (kb1b1, BC f 48), (L3.b 0, GC ⟨a, n4, false⟩), (L6.b 14, FC n4)]) hp12 ⟨
            oD buildGn, oT rG, oA,
            trivial⟩ (fun L12 d12 w13 hp13 => ?_)
          refine k19 _ _ ?_
          refine wp_ret ?_
          refine bodyPost_ret (v := .tuple #[GV ⟨0, 0, false⟩, .int .i64 6]) ?_ rfl ?_
          · exact rct rG rfl (by kernel_rfl) (by kernel_rfl) (hp13.bound 0 rfl).2
          · exact ⟨fin6 h1q h2q h3q h4q, hp13.bel⟩
  · skip
    refine cond_t (nt_f h1q) ?_
    refine wp_seq_k (fun K12 k12 => ?_)
    refine gsD [.det (GV ⟨0, 0, false⟩), .store (.base 0) 0 (GC ⟨0, 0, false⟩) (GC ⟨0, 0, false⟩), .det (.int .i64 5)] [0, 1, 2] [0, 1, 3] (fun L d => D d 0 2 ++ ([L0.p 0, .int .i64 5] ++ D d 4 67)) (fun L => [(L0.b 0, GC ⟨0, 0, false⟩), (kb1b1, BC f 48), (L3.b 0, GC ⟨a, 0, false⟩), (L6.b 14, FC n4)]) hp8 ⟨
      oD buildGn, oT rG, oA,
      trivial⟩ (fun L8 d8 w9 hp9 => ?_)
    refine k12 _ _ ?_
    refine wp_ret ?_
    refine bodyPost_ret (v := .tuple #[GV ⟨0, 0, false⟩, .int .i64 5]) ?_ rfl ?_
    · exact rct rG rfl (by kernel_rfl) (by kernel_rfl) (hp9.bound 0 rfl).2
    · exact ⟨fin7 h1q, hp9.bel⟩
set_option maxHeartbeats 4000000 in
theorem ref5Take1e2 (R : RefK) (p : Option Addr) (n c : Nat) (w : World) (hH : ∀ x, Below w.heap.size w x → Calls Tryz.prog 57 #[.slice p n c, .int .i64 48] x (Ret (.tuple #[.slice none 0 0, .bool false, .bool false, .int .i64 2]) x)) : Calls Tryz.prog 24 #[.slice p n c] w (Ret (tkE 2) w) := by
  have hp0 := Heap.start w
  go_enter Tryz.func24, Tryz.ntmps24
  refine wp_seq_k (fun K1 k1 => ?_)
  refine gsD [.alloc (GC ⟨0, 0, false⟩), .det (.int .i64 0)] [0, 1] [0, 0] (fun L d => [.slice p n c, d 1, L.p 0] ++ D d 3 68) (fun L => [(L.b 0, GC ⟨0, 0, false⟩)]) hp0 ⟨
    oZ rG, oA,
    trivial⟩ (fun L0 _ w1 hp1 => ?_)
  refine k1 _ _ ?_
  refine wp_seq_k (fun K2 k2 => ?_)
  refine gsD [.det (.slice p n c), .det (.tuple #[.slice none 0 0, .bool false, .bool false, .int .i64 2]), .det (.tuple #[.slice none 0 0, .bool false, .bool false, .int .i64 2]), .det (.slice none 0 0), .det (.bool false), .det (.bool false), .det (.int .i64 2), .det (.slice none 0 0), .det (.bool false), .det (.bool false), .det (.int .i64 2)] [0, 1, 2, 3, 4, 5, 6, 7, 8, 9, 10] [0, 1, 3, 7, 7, 7, 7, 15, 159, 447, 1023] (fun L d => D d 0 2 ++ ([L0.p 0] ++ (D d 3 2 ++ ([.bool false, d 6, .int .i64 2] ++ D d 8 63)))) (fun L => [(L0.b 0, GC ⟨0, 0, false⟩)]) hp1 ⟨
    oM, oH (v := .tuple #[.slice none 0 0, .bool false, .bool false, .int .i64 2]) (vs := #[.slice p n c, .int .i64 48]) (fun w hb0 _ => hH w (Below.trans (Below.refl _ _) hb0)),
    oM, oX, oX, oX, oX, oA, oA, oA, oA,
    trivial⟩ (fun L1 _ w2 hp2 => ?_)
  refine k2 _ _ ?_
  refine wp_seq_k (fun K3 k3 => ?_)
  refine wp_seq_k (fun K4 k4 => ?_)
  refine gsD [.det (.int .i64 2), .det (.bool true), .det (.bool true), .det undef, .det (.bool true)] [0, 1, 2, 3, 4] [0, 1, 3, 7, 15] (fun L d => D d 0 2 ++ ([L0.p 0] ++ (D d 3 2 ++ ([.bool false, d 6, .int .i64 2] ++ (D d 8 14 ++ ([.bool true] ++ D d 23 48)))))) (fun L => [(L0.b 0, GC ⟨0, 0, false⟩)]) hp2 ⟨
    oM, oJ .i64 .i64 2 0 (h := fun w => (neqI _ _ _ _ w).trans rfl), oM, oS, oP,
    trivial⟩ (fun L2 _ w3 hp3 => ?_)
  refine k4 _ _ ?_
  refine wp_cond_true (by kernel_rfl) ?_
  refine wp_seq_k (fun K5 k5 => ?_)
  refine gsD [.det (.bool false), .det (GV ⟨0, 0, false⟩), .det (.int .i64 2), .store (.base 0) 0 (GC ⟨0, 0, false⟩) (GC ⟨0, 0, false⟩), .det (.int .i64 2)] [0, 1, 2, 3, 4] [0, 1, 0, 3, 15] (fun L d => D d 0 2 ++ ([L0.p 0, .int .i64 2] ++ D d 4 67)) (fun L => [(L0.b 0, GC ⟨0, 0, false⟩)]) hp3 ⟨
    oM, oD (buildGi false), oM, oT rG, oA,
    trivial⟩ (fun L3 _ w4 hp4 => ?_)
  refine k5 _ _ ?_
  refine wp_ret ?_
  refine bodyPost_ret (v := .tuple #[GV ⟨0, 0, false⟩, .int .i64 2]) ?_ rfl ?_
  · exact rct rG rfl (by kernel_rfl) (by kernel_rfl) (hp4.bound 0 rfl).2
  · exact ⟨rfl, hp4.bel⟩
set_option maxHeartbeats 4000000 in
theorem ref5Take1e8 (R : RefK) (p : Option Addr) (n c : Nat) (w : World) (hH : ∀ x, Below w.heap.size w x → Calls Tryz.prog 57 #[.slice p n c, .int .i64 48] x (Ret (.tuple #[.slice none 0 0, .bool false, .bool false, .int .i64 8]) x)) : Calls Tryz.prog 24 #[.slice p n c] w (Ret (tkE 8) w) := by
  have hp0 := Heap.start w
  go_enter Tryz.func24, Tryz.ntmps24
  refine wp_seq_k (fun K1 k1 => ?_)
  refine gsD [.alloc (GC ⟨0, 0, false⟩), .det (.int .i64 0)] [0, 1] [0, 0] (fun L d => [.slice p n c, d 1, L.p 0] ++ D d 3 68) (fun L => [(L.b 0, GC ⟨0, 0, false⟩)]) hp0 ⟨
    oZ rG, oA,
    trivial⟩ (fun L0 _ w1 hp1 => ?_)
  refine k1 _ _ ?_
  refine wp_seq_k (fun K2 k2 => ?_)
  refine gsD [.det (.slice p n c), .det (.tuple #[.slice none 0 0, .bool false, .bool false, .int .i64 8]), .det (.tuple #[.slice none 0 0, .bool false, .bool false, .int .i64 8]), .det (.slice none 0 0), .det (.bool false), .det (.bool false), .det (.int .i64 8), .det (.slice none 0 0), .det (.bool false), .det (.bool false), .det (.int .i64 8)] [0, 1, 2, 3, 4, 5, 6, 7, 8, 9, 10] [0, 1, 3, 7, 7, 7, 7, 15, 159, 447, 1023] (fun L d => D d 0 2 ++ ([L0.p 0] ++ (D d 3 2 ++ ([.bool false, d 6, .int .i64 8] ++ D d 8 63)))) (fun L => [(L0.b 0, GC ⟨0, 0, false⟩)]) hp1 ⟨
    oM, oH (v := .tuple #[.slice none 0 0, .bool false, .bool false, .int .i64 8]) (vs := #[.slice p n c, .int .i64 48]) (fun w hb0 _ => hH w (Below.trans (Below.refl _ _) hb0)),
    oM, oX, oX, oX, oX, oA, oA, oA, oA,
    trivial⟩ (fun L1 _ w2 hp2 => ?_)
  refine k2 _ _ ?_
  refine wp_seq_k (fun K3 k3 => ?_)
  refine wp_seq_k (fun K4 k4 => ?_)
  refine gsD [.det (.int .i64 8), .det (.bool true), .det (.bool true), .det undef, .det (.bool true)] [0, 1, 2, 3, 4] [0, 1, 3, 7, 15] (fun L d => D d 0 2 ++ ([L0.p 0] ++ (D d 3 2 ++ ([.bool false, d 6, .int .i64 8] ++ (D d 8 14 ++ ([.bool true] ++ D d 23 48)))))) (fun L => [(L0.b 0, GC ⟨0, 0, false⟩)]) hp2 ⟨
    oM, oJ .i64 .i64 8 0 (h := fun w => (neqI _ _ _ _ w).trans rfl), oM, oS, oP,
    trivial⟩ (fun L2 _ w3 hp3 => ?_)
  refine k4 _ _ ?_
  refine wp_cond_true (by kernel_rfl) ?_
  refine wp_seq_k (fun K5 k5 => ?_)
  refine gsD [.det (.bool false), .det (GV ⟨0, 0, false⟩), .det (.int .i64 8), .store (.base 0) 0 (GC ⟨0, 0, false⟩) (GC ⟨0, 0, false⟩), .det (.int .i64 8)] [0, 1, 2, 3, 4] [0, 1, 0, 3, 15] (fun L d => D d 0 2 ++ ([L0.p 0, .int .i64 8] ++ D d 4 67)) (fun L => [(L0.b 0, GC ⟨0, 0, false⟩)]) hp3 ⟨
    oM, oD (buildGi false), oM, oT rG, oA,
    trivial⟩ (fun L3 _ w4 hp4 => ?_)
  refine k5 _ _ ?_
  refine wp_ret ?_
  refine bodyPost_ret (v := .tuple #[GV ⟨0, 0, false⟩, .int .i64 8]) ?_ rfl ?_
  · exact rct rG rfl (by kernel_rfl) (by kernel_rfl) (hp4.bound 0 rfl).2
  · exact ⟨rfl, hp4.bel⟩
set_option maxHeartbeats 4000000 in
theorem ref5Take1e3 (R : RefK) (p : Option Addr) (n c : Nat) (w : World) (hH : ∀ x, Below w.heap.size w x → Calls Tryz.prog 57 #[.slice p n c, .int .i64 48] x (Ret (.tuple #[.slice none 0 0, .bool false, .bool false, .int .i64 3]) x)) : Calls Tryz.prog 24 #[.slice p n c] w (Ret (tkE 3) w) := by
  have hp0 := Heap.start w
  go_enter Tryz.func24, Tryz.ntmps24
  refine wp_seq_k (fun K1 k1 => ?_)
  refine gsD [.alloc (GC ⟨0, 0, false⟩), .det (.int .i64 0)] [0, 1] [0, 0] (fun L d => [.slice p n c, d 1, L.p 0] ++ D d 3 68) (fun L => [(L.b 0, GC ⟨0, 0, false⟩)]) hp0 ⟨
    oZ rG, oA,
    trivial⟩ (fun L0 _ w1 hp1 => ?_)
  refine k1 _ _ ?_
  refine wp_seq_k (fun K2 k2 => ?_)
  refine gsD [.det (.slice p n c), .det (.tuple #[.slice none 0 0, .bool false, .bool false, .int .i64 3]), .det (.tuple #[.slice none 0 0, .bool false, .bool false, .int .i64 3]), .det (.slice none 0 0), .det (.bool false), .det (.bool false), .det (.int .i64 3), .det (.slice none 0 0), .det (.bool false), .det (.bool false), .det (.int .i64 3)] [0, 1, 2, 3, 4, 5, 6, 7, 8, 9, 10] [0, 1, 3, 7, 7, 7, 7, 15, 159, 447, 1023] (fun L d => D d 0 2 ++ ([L0.p 0] ++ (D d 3 2 ++ ([.bool false, d 6, .int .i64 3] ++ D d 8 63)))) (fun L => [(L0.b 0, GC ⟨0, 0, false⟩)]) hp1 ⟨
    oM, oH (v := .tuple #[.slice none 0 0, .bool false, .bool false, .int .i64 3]) (vs := #[.slice p n c, .int .i64 48]) (fun w hb0 _ => hH w (Below.trans (Below.refl _ _) hb0)),
    oM, oX, oX, oX, oX, oA, oA, oA, oA,
    trivial⟩ (fun L1 _ w2 hp2 => ?_)
  refine k2 _ _ ?_
  refine wp_seq_k (fun K3 k3 => ?_)
  refine wp_seq_k (fun K4 k4 => ?_)
  refine gsD [.det (.int .i64 3), .det (.bool true), .det (.bool true), .det undef, .det (.bool true)] [0, 1, 2, 3, 4] [0, 1, 3, 7, 15] (fun L d => D d 0 2 ++ ([L0.p 0] ++ (D d 3 2 ++ ([.bool false, d 6, .int .i64 3] ++ (D d 8 14 ++ ([.bool true] ++ D d 23 48)))))) (fun L => [(L0.b 0, GC ⟨0, 0, false⟩)]) hp2 ⟨
    oM, oJ .i64 .i64 3 0 (h := fun w => (neqI _ _ _ _ w).trans rfl), oM, oS, oP,
    trivial⟩ (fun L2 _ w3 hp3 => ?_)
  refine k4 _ _ ?_
  refine wp_cond_true (by kernel_rfl) ?_
  refine wp_seq_k (fun K5 k5 => ?_)
  refine gsD [.det (.bool false), .det (GV ⟨0, 0, false⟩), .det (.int .i64 3), .store (.base 0) 0 (GC ⟨0, 0, false⟩) (GC ⟨0, 0, false⟩), .det (.int .i64 3)] [0, 1, 2, 3, 4] [0, 1, 0, 3, 15] (fun L d => D d 0 2 ++ ([L0.p 0, .int .i64 3] ++ D d 4 67)) (fun L => [(L0.b 0, GC ⟨0, 0, false⟩)]) hp3 ⟨
    oM, oD (buildGi false), oM, oT rG, oA,
    trivial⟩ (fun L3 _ w4 hp4 => ?_)
  refine k5 _ _ ?_
  refine wp_ret ?_
  refine bodyPost_ret (v := .tuple #[GV ⟨0, 0, false⟩, .int .i64 3]) ?_ rfl ?_
  · exact rct rG rfl (by kernel_rfl) (by kernel_rfl) (hp4.bound 0 rfl).2
  · exact ⟨rfl, hp4.bel⟩
set_option maxHeartbeats 4000000 in
theorem ref5Take1i (R : RefK) (p : Option Addr) (n c : Nat) (w : World) (hH : ∀ x, Below w.heap.size w x → Calls Tryz.prog 57 #[.slice p n c, .int .i64 48] x (Ret (.tuple #[.slice none 0 0, .bool true, .bool false, .int .i64 0]) x)) : Calls Tryz.prog 24 #[.slice p n c] w (Ret (.tuple #[GV ⟨0, 0, true⟩, .int .i64 0]) w) := by
  have hp0 := Heap.start w
  go_enter Tryz.func24, Tryz.ntmps24
  refine wp_seq_k (fun K1 k1 => ?_)
  refine gsD [.alloc (GC ⟨0, 0, false⟩), .det (.int .i64 0)] [0, 1] [0, 0] (fun L d => [.slice p n c, d 1, L.p 0] ++ D d 3 68) (fun L => [(L.b 0, GC ⟨0, 0, false⟩)]) hp0 ⟨
    oZ rG, oA,
    trivial⟩ (fun L0 _ w1 hp1 => ?_)
  refine k1 _ _ ?_
  refine wp_seq_k (fun K2 k2 => ?_)
  refine gsD [.det (.slice p n c), .det (.tuple #[.slice none 0 0, .bool true, .bool false, .int .i64 0]), .det (.tuple #[.slice none 0 0, .bool true, .bool false, .int .i64 0]), .det (.slice none 0 0), .det (.bool true), .det (.bool false), .det (.int .i64 0), .det (.slice none 0 0), .det (.bool true), .det (.bool false), .det (.int .i64 0)] [0, 1, 2, 3, 4, 5, 6, 7, 8, 9, 10] [0, 1, 3, 7, 7, 7, 7, 15, 159, 447, 1023] (fun L d => D d 0 2 ++ ([L0.p 0] ++ (D d 3 2 ++ ([.bool true, d 6, .int .i64 0] ++ D d 8 63)))) (fun L => [(L0.b 0, GC ⟨0, 0, false⟩)]) hp1 ⟨
    oM, oH (v := .tuple #[.slice none 0 0, .bool true, .bool false, .int .i64 0]) (vs := #[.slice p n c, .int .i64 48]) (fun w hb0 _ => hH w (Below.trans (Below.refl _ _) hb0)),
    oM, oX, oX, oX, oX, oA, oA, oA, oA,
    trivial⟩ (fun L1 _ w2 hp2 => ?_)
  refine k2 _ _ ?_
  refine wp_seq_k (fun K3 k3 => ?_)
  refine wp_seq_k (fun K4 k4 => ?_)
  refine gsD [.det (.int .i64 0), .det (.bool false), .det (.bool false), .det (.bool true), .det (.bool true)] [0, 1, 2, 3, 4] [0, 1, 3, 7, 15] (fun L d => D d 0 2 ++ ([L0.p 0] ++ (D d 3 2 ++ ([.bool true, d 6, .int .i64 0] ++ (D d 8 14 ++ ([.bool true] ++ D d 23 48)))))) (fun L => [(L0.b 0, GC ⟨0, 0, false⟩)]) hp2 ⟨
    oM, oJ .i64 .i64 0 0 (h := fun w => (neqI _ _ _ _ w).trans rfl), oM, oM, oP,
    trivial⟩ (fun L2 _ w3 hp3 => ?_)
  refine k4 _ _ ?_
  refine wp_cond_true (by kernel_rfl) ?_
  refine wp_seq_k (fun K5 k5 => ?_)
  refine gsD [.det (.bool true), .det (GV ⟨0, 0, true⟩), .det (.int .i64 0), .store (.base 0) 0 (GC ⟨0, 0, true⟩) (GC ⟨0, 0, true⟩), .det (.int .i64 0)] [0, 1, 2, 3, 4] [0, 1, 0, 3, 15] (fun L d => D d 0 2 ++ ([L0.p 0, .int .i64 0] ++ D d 4 67)) (fun L => [(L0.b 0, GC ⟨0, 0, true⟩)]) hp3 ⟨
    oM, oD (buildGi true), oM, oT rG, oA,
    trivial⟩ (fun L3 _ w4 hp4 => ?_)
  refine k5 _ _ ?_
  refine wp_ret ?_
  refine bodyPost_ret (v := .tuple #[GV ⟨0, 0, true⟩, .int .i64 0]) ?_ rfl ?_
  · exact rct rG rfl (by kernel_rfl) (by kernel_rfl) (hp4.bound 0 rfl).2
  · exact ⟨rfl, hp4.bel⟩
set_option maxHeartbeats 4000000 in
theorem ref5Take1b (R : RefK) (p : Option Addr) (c : Nat) (g f : Nat → Int) (gr : Bool) (w : World) (hb : AtK .u8 w p 48 g) (hH : ∀ w, AtK .u8 w p 48 g → Calls Tryz.prog 57 #[.slice p 48 c, .int .i64 48] w (RetT (fun s => .tuple #[s, .bool false, .bool gr, .int .i64 0]) f 48 w)) (rf : ∀ j, j < 48 → 0 ≤ f j ∧ f j < 256) (ha : RI ≤ bv f 48) : Calls Tryz.prog 24 #[.slice p 48 c] w (Ret (tkE 4) w) := by
  have fin0 : Ending.returned (.tuple #[GV ⟨0, 0, false⟩, .int .i64 4]) = Ending.returned (tkE 4) := by subst_vars; rfl
  have hp0 := Heap.start w
  go_enter Tryz.func24, Tryz.ntmps24
  refine wp_seq_k (fun K1 k1 => ?_)
  refine gsD [.alloc (GC ⟨0, 0, false⟩), .det (.int .i64 0)] [0, 1] [0, 0] (fun L d => [.slice p 48 c, d 1, L.p 0] ++ D d 3 68) (fun L => [(L.b 0, GC ⟨0, 0, false⟩)]) hp0 ⟨
    oZ rG, oA,
    trivial⟩ (fun L0 d0 w1 hp1 => ?_)
  refine k1 _ _ ?_
  refine wp_seq_k (fun K2 k2 => ?_)
  refine gsA [.det (.slice p 48 c), .any (isT (fun s => .tuple #[s, .bool false, .bool gr, .int .i64 0]) w.heap.size [L0.b 0] f 48), .detV 1 (fun v => v), .detV 1 (tupAt 0), .det (.bool false), .det (.bool gr), .det (.int .i64 0), .detV 1 (tupAt 0), .det (.bool false), .det (.bool gr), .det (.int .i64 0)] [0, 1, 2, 3, 4, 5, 6, 7, 8, 9, 10] [0, 1, 3, 7, 7, 7, 7, 15, 159, 447, 1023] (fun L => [.slice p 48 c, d0 1, L0.p 0, d0 3, tupAt 0 (L.v 1), .bool false, .bool gr, .int .i64 0] ++ (D d0 8 3 ++ ([L.v 1, .slice p 48 c, L.v 1, tupAt 0 (L.v 1), .bool false, .bool gr, .int .i64 0] ++ D d0 18 53))) (fun L => [(L0.b 0, GC ⟨0, 0, false⟩)]) hp1 ⟨
    oM, oY (fun L => #[.slice p 48 c, .int .i64 48]) (fun _ _ _ h hb => h.stay hb) (fun L w hs => newT hs [L0.b 0] (hH w (AtK.below hb hs.bel))), oMV, oXS 1 (fun _ => rfl),
    oXT 1 (fun _ => rfl), oXT 1 (fun _ => rfl), oXT 1 (fun _ => rfl), oAX, oA, oA, oA,
    trivial⟩ (fun L1 w2 hp2 ha2 => ?_)
  obtain ⟨_, eb1b1, kb1b1, cb1b1, rfl, lb1b1, mb1b1, qb1b1, ub1b1, xb1b1⟩ := AnyF.at ha2 (j := 1) rfl rfl
  rw [eb1b1]
  have hp21b1 := Heap.add hp2 qb1b1 ub1b1 xb1b1
  refine k2 _ _ ?_
  refine wp_seq_k (fun K3 k3 => ?_)
  refine wp_seq_k (fun K4 k4 => ?_)
  refine gsD [.det (.int .i64 0), .det (.bool false), .det (.bool false), .det (.bool false), .det (.bool false)] [0, 1, 2, 3, 4] [0, 1, 3, 7, 15] (fun L d => D d 0 2 ++ ([L0.p 0, d 3, .slice (some ⟨kb1b1, 0, none⟩) 48 cb1b1] ++ (D d 5 17 ++ ([.bool false] ++ D d 23 48)))) (fun L => [(L0.b 0, GC ⟨0, 0, false⟩), (kb1b1, BC f 48)]) hp21b1 ⟨
    oM, oJ .i64 .i64 0 0 (h := fun w => (neqI _ _ _ _ w).trans rfl), oM, oM, oP,
    trivial⟩ (fun L2 d2 w3 hp3 => ?_)
  refine k4 _ _ ?_
  refine wp_cond_false (by kernel_rfl) ?_
  refine skips ?_
  refine k3 _ _ ?_
  refine wp_seq_k (fun K5 k5 => ?_)
  refine gsD [.alloc (GC ⟨0, 0, false⟩)] [0] [0] (fun L d => D d 0 2 ++ ([L0.p 0, d 3, .slice (some ⟨kb1b1, 0, none⟩) 48 cb1b1] ++ (D d 5 3 ++ ([L.p 0] ++ D d 9 62)))) (fun L => [(L0.b 0, GC ⟨0, 0, false⟩), (kb1b1, BC f 48), (L.b 0, GC ⟨0, 0, false⟩)]) hp3 ⟨
    oZ rG,
    trivial⟩ (fun L3 d3 w4 hp4 => ?_)
  refine k5 _ _ ?_
  refine wp_seq_k (fun K6 k6 => ?_)
  refine gsD [.det (.slice (some ⟨kb1b1, 0, none⟩) 48 cb1b1), .det (.tuple #[FV 0, .int .i64 4]), .det (.tuple #[FV 0, .int .i64 4]), .det (FV 0), .det (.int .i64 4), .det (L3.p 0), .store (.base 2) 0 (FC 0) (GC ⟨0, 0, false⟩), .det (.int .i64 4)] [0, 1, 2, 3, 4, 5, 6, 7] [0, 1, 3, 7, 7, 15, 47, 127] (fun L d => D d 0 2 ++ ([L0.p 0] ++ (D d 3 4 ++ ([.int .i64 4] ++ D d 8 63)))) (fun L => [(L0.b 0, GC ⟨0, 0, false⟩), (kb1b1, BC f 48), (L3.b 0, GC ⟨0, 0, false⟩)]) hp4 ⟨
    oM, oCS (fun L => #[.slice (some ⟨kb1b1, 0, none⟩) 48 cb1b1]) (fun L w hs => refTakeBig f _ _ w (box_at (seen_at hs (k := 1) rfl)) rf ha), oM, oX, oX, oF fG0,
    oT rF, oA,
    trivial⟩ (fun L4 d4 w5 hp5 => ?_)
  refine k6 _ _ ?_
  refine wp_seq_k (fun K7 k7 => ?_)
  refine wp_seq_k (fun K8 k8 => ?_)
  refine gsD [.det (.int .i64 4), .det (.bool true)] [0, 1] [0, 1] (fun L d => D d 0 2 ++ ([L0.p 0] ++ (D d 3 4 ++ ([.int .i64 4] ++ (D d 8 25 ++ ([.bool true] ++ D d 34 37)))))) (fun L => [(L0.b 0, GC ⟨0, 0, false⟩), (kb1b1, BC f 48), (L3.b 0, GC ⟨0, 0, false⟩)]) hp5 ⟨
    oM, oJ .i64 .i64 4 0 (h := fun w => (neqI _ _ _ _ w).trans rfl),
    trivial⟩ (fun L5 d5 w6 hp6 => ?_)
  refine k8 _ _ ?_
  refine wp_cond_true (by kernel_rfl) ?_
  refine wp_seq_k (fun K9 k9 => ?_)
  refine gsD [.det (GV ⟨0, 0, false⟩), .det (.int .i64 4), .store (.base 0) 0 (GC ⟨0, 0, false⟩) (GC ⟨0, 0, false⟩), .det (.int .i64 4)] [0, 1, 2, 3] [0, 0, 1, 7] (fun L d => D d 0 2 ++ ([L0.p 0, .int .i64 4] ++ D d 4 67)) (fun L => [(L0.b 0, GC ⟨0, 0, false⟩), (kb1b1, BC f 48), (L3.b 0, GC ⟨0, 0, false⟩)]) hp6 ⟨
    oD buildGn, oM, oT rG, oA,
    trivial⟩ (fun L6 d6 w7 hp7 => ?_)
  refine k9 _ _ ?_
  refine wp_ret ?_
  refine bodyPost_ret (v := .tuple #[GV ⟨0, 0, false⟩, .int .i64 4]) ?_ rfl ?_
  · exact rct rG rfl (by kernel_rfl) (by kernel_rfl) (hp7.bound 0 rfl).2
  · exact ⟨fin0 , hp7.bel⟩
theorem ref5Take1 (R : RefK) (p : Option Addr) (n c : Nat) (g : Nat → Int) (w : World) (hb : AtK .u8 w p n g) (rg : ∀ j, j < n → 0 ≤ g j ∧ g j < 256) : Calls Tryz.prog 24 #[.slice p n c] w (Ret (tkA g n) w) := by
  unfold tkA
  by_cases h1 : n < 48
  · rw [if_pos h1]; exact ref5Take1e2 R p n c w fun x _ => ref5hdShort48 p n c x h1
  rw [if_neg h1]
  by_cases h2 : 48 < n
  · rw [if_pos h2]; exact ref5Take1e8 R p n c w fun x _ => ref5hdLong48 p n c x h2
  rw [if_neg h2]
  obtain rfl : n = 48 := by omega
  have r0 := (rg 0 (by decide)).1
  by_cases hl : g 0 / 32 < 4
  · rw [if_pos hl]; exact ref5Take1e3 R p 48 c w fun x hx => ref5hdLow48 p c g x (AtK.below hb hx) r0 hl
  rw [if_neg hl]
  by_cases h6 : 6 ≤ g 0 / 32
  · rw [if_pos h6]
    have hB := fun (x : World) (hx : Below w.heap.size w x) => ref5hdBig48 p c g x (AtK.below hb hx) r0 hl h6
    cases hz : hdz g 48 with
    | false => rw [hz] at hB; exact ref5Take1e3 R p 48 c w hB
    | true => rw [hz] at hB; exact ref5Take1i R p 48 c w hB
  rw [if_neg h6]
  have rf := su_rg rg (by decide)
  have hH := fun (x : World) (hx : AtK .u8 x p 48 g) => ref5hdOk48 p c g x hx r0 hl h6
  by_cases ha : bv (su g 0 (g 0 % 32)) 48 < RI
  · rw [if_pos ha]; exact ref5Take1ok R p c g _ _ _ w hb hH rf (ofB_val rf ha)
  · rw [if_neg ha]; exact ref5Take1b R p c g _ _ w hb hH rf (by omega)
end Go.Proofs.YtmibajbpimcfnaaGreatDoor.fpn
