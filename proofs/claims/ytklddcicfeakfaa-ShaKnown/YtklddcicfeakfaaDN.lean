/- Law 12: has sha begun? Digests, blocks. -/
import Derived.Test.YtklddcicfeakfaaDM
namespace Go.Proofs.Ytklddcicfeakfaa.fpn
open Go.RowKit Pl
set_option linter.unusedVariables false
set_option linter.unusedSimpArgs false
set_option maxRecDepth 4000

/-- A new row, as a box. -/
def isR (B : Nat) (bs : List Nat) (cs : List Value) (n c : Nat) (v : Value) (w : World) : Prop := ∃ k, v = .slice (some ⟨k, 0, none⟩) n c ∧ B ≤ k ∧ (∀ b ∈ bs, b < k) ∧ Box w k cs
theorem isR.stay {B : Nat} {bs : List Nat} {cs : List Value} {n c : Nat} {v : Value} {w x : World} (h : isR B bs cs n c v w) (hb : Below w.heap.size w x) : isR B bs cs n c v x := by
  obtain ⟨k, e, h1, h2, h3⟩ := h
  exact ⟨k, e, h1, h2, h3.up hb⟩
section
variable {ops : Array Oper} {ks : List Kind} {T : List Nat} {a0 : Act} {B : Nat} {w0 W0 : World} {H : List (Nat × List Value)} {i : Nat} {o : Oper}
theorem newR {L : Lt} {w : World} {fn : FuncId} {vs : Array Value} {g : Nat → Int} {n : Nat} (hs : Seen ks T B w0 H L i w) (bs : List Nat) (h : Calls Try.prog fn vs w (RetTw g n w)) (hb : bs = H.map (·.1) := by rfl) : Calls Try.prog fn vs w fun e w' => ∃ v, e = .returned v ∧ isR B bs (BC (tw g n) (n + 3)) n (n + 3) v w' ∧ Below w.heap.size w w' := by
  refine Calls.mono h fun e w' ⟨k, he, h1, h2, hbl⟩ => ⟨_, he, ⟨k, rfl, Nat.le_trans hs.le h1, fun b hbm => ?_, h2⟩, hbl⟩
  subst hb
  obtain ⟨p, hp, rfl⟩ := List.mem_map.1 hbm
  have := (hs.base p hp).lt
  omega
end
theorem dg0 : dig (fun _ => 0) 0 0 = 227 ∧ dig (fun _ => 0) 0 1 = 176 ∧ dig (fun _ => 0) 0 31 = 85 := by decide +kernel
set_option maxHeartbeats 4000000 in
theorem begun12a (E0 : Nat → Int) (h0 : E0 0 = 227) (h1 : E0 1 = 176) (h31 : E0 31 = 85) (hS : ∀ w, Calls Try.prog 8 #[.slice none 0 0] w (Ret (VB E0 32) w)) (w : World) : Calls Try.prog 6 #[] w (Ret (.bool true) w) := by
  have hp0 := Heap.start w
  go_enter Try.func6, Try.ntmps6
  refine wp_seq_k (fun K1 k1 => ?_)
  refine gsD [.det (.bool false)] [0] [0] (fun L d => D d 0 16) (fun L => []) hp0 ⟨
    oA,
    trivial⟩ (fun L0 _ w1 hp1 => ?_)
  refine k1 _ _ ?_
  refine wp_seq_k (fun K2 k2 => ?_)
  refine gsD [.det (VB E0 32), .alloc (BC (fun _ => 0) 32), .store (.new 1) 0 (BC E0 32) (BC E0 32)] [0, 1, 2] [0, 0, 3] (fun L d => [d 0, L.p 1] ++ D d 2 14) (fun L => [(L.b 1, BC E0 32)]) hp1 ⟨
    oR hS, oZ rB32, oT rB32,
    trivial⟩ (fun L1 _ w2 hp2 => ?_)
  refine k2 _ _ ?_
  refine wp_seq_k (fun K3 k3 => ?_)
  refine gsD [.det (L1.p 1), .det (.int .u8 (E0 0)), .det (.bool true), .det (.bool true), .det (pt (L1.b 1) 1), .det (.int .u8 (E0 1)), .det (.bool true), .det (.bool true), .det (.bool true), .det (pt (L1.b 1) 31), .det (.int .u8 (E0 31)), .det (.bool true), .det (.bool true), .det (.bool true)] [0, 1, 2, 3, 4, 5, 6, 7, 8, 9, 10, 11, 12, 13] [0, 1, 3, 7, 15, 31, 63, 127, 255, 511, 1023, 2047, 4095, 8191] (fun L d => [.bool true] ++ D d 1 15) (fun L => [(L1.b 1, BC E0 32)]) hp2 ⟨
    oI aB32, oL1 0 0 oneY, oJ .u8 .u8 (E0 0) 227 (h := fun w => (eqlI _ _ _ _ w).trans (by rw [h0]; rfl)), oM, oI aB32, oL1 0 1 oneY, oJ .u8 .u8 (E0 1) 176 (h := fun w => (eqlI _ _ _ _ w).trans (by rw [h1]; rfl)),
    oP, oM, oI aB32, oL1 0 31 oneY, oJ .u8 .u8 (E0 31) 85 (h := fun w => (eqlI _ _ _ _ w).trans (by rw [h31]; rfl)), oP, oA,
    trivial⟩ (fun L2 _ w3 hp3 => ?_)
  refine k3 _ _ ?_
  refine wp_ret ?_
  refine bodyPost_ret (v := .bool true) ?_ rfl ?_
  · exact res_t rfl (by kernel_rfl) _
  · exact ⟨rfl, hp3.bel⟩
theorem begun12 (S : ShaK) (w : World) : Calls Try.prog 6 #[] w (Ret (.bool true) w) := begun12a _ dg0.1 dg0.2.1 dg0.2.2 (fun w => S.sum (fun _ => 0) none 0 0 w (by decide) (by decide) (fun h => absurd h (by decide)) (fun j h => absurd h (by omega))) w
set_option maxHeartbeats 4000000 in
theorem shaAll0 (S : ShaK) (g : Nat → Int) (p : Option Addr) (n c : Nat) (h : Nat → BitVec 32) (cc : Nat → Int) (w : World) (hn : ¬ n ≤ 400) : Calls Try.prog 3 #[.slice p n c, VW h 8, VB cc 64] w (Ret (.bool true) w) := by
  have hp0 := Heap.start w
  go_enter Try.func3, Try.ntmps3
  refine wp_seq_k (fun K1 k1 => ?_)
  refine gsD [.alloc (AW h 8), .alloc (BC cc 64), .det (.bool false)] [0, 1, 2] [0, 0, 0] (fun L d => [.slice p n c] ++ D d 1 33) (fun L => [(L.b 0, AW h 8), (L.b 1, BC cc 64)]) hp0 ⟨
    oB, oB, oA,
    trivial⟩ (fun L0 _ w1 hp1 => ?_)
  refine k1 _ _ ?_
  refine wp_seq_k (fun K2 k2 => ?_)
  refine wp_seq_k (fun K3 k3 => ?_)
  refine gsD [.det (.bool true), .det (.bool false)] [0, 1] [0, 1] (fun L d => [.slice p n c] ++ (D d 1 8 ++ ([.bool false] ++ D d 10 24))) (fun L => [(L0.b 0, AW h 8), (L0.b 1, BC cc 64)]) hp1 ⟨
    oR (begun12 S), oN,
    trivial⟩ (fun L1 _ w2 hp2 => ?_)
  refine k3 _ _ ?_
  refine wp_cond_false (by kernel_rfl) ?_
  refine skips ?_
  refine k2 _ _ ?_
  refine wp_seq_k (fun K4 k4 => ?_)
  refine wp_seq_k (fun K5 k5 => ?_)
  refine gsD [.det (.slice p n c), .det (.int .i64 n), .det (.bool true)] [0, 1, 2] [0, 1, 3] (fun L d => D d 0 12 ++ ([.bool true] ++ D d 13 21)) (fun L => [(L0.b 0, AW h 8), (L0.b 1, BC cc 64)]) hp2 ⟨
    oM, fun h => ⟨ob_len (p := p) (n := n) (c := c) (fun _ => rfl) h rfl (fun _ => by kernel_rfl) Try.underlying22⟩, oJ .i64 .i64 n 400 (h := fun w => (gtrI _ _ _ w).trans (by rw [decide_eq_true (by omega)])),
    trivial⟩ (fun L2 _ w3 hp3 => ?_)
  refine k5 _ _ ?_
  refine wp_cond_true (by kernel_rfl) ?_
  refine wp_seq_k (fun K6 k6 => ?_)
  refine gsD [.det (.bool true)] [0] [0] (fun L d => D d 0 6 ++ ([.bool true] ++ D d 7 27)) (fun L => [(L0.b 0, AW h 8), (L0.b 1, BC cc 64)]) hp3 ⟨
    oA,
    trivial⟩ (fun L3 _ w4 hp4 => ?_)
  refine k6 _ _ ?_
  refine wp_ret ?_
  refine bodyPost_ret (v := .bool true) ?_ rfl ?_
  · exact res_t rfl (by kernel_rfl) _
  · exact ⟨rfl, hp4.bel⟩
set_option maxHeartbeats 4000000 in
theorem shaAll1 (S : ShaK) (g : Nat → Int) (p : Option Addr) (n c : Nat) (h : Nat → BitVec 32) (cc : Nat → Int) (w : World) (hn : n ≤ 400) (hp : AtK .u8 w p n g) (hg : ∀ j, j < n → 0 ≤ g j ∧ g j < 256) (hc : ∀ i, i < 64 → 0 ≤ cc i ∧ cc i < 256) : Calls Try.prog 3 #[.slice p n c, VW h 8, VB cc 64] w (Ret (.bool true) w) := by
  have hp0 := Heap.start w
  go_enter Try.func3, Try.ntmps3
  refine wp_seq_k (fun K1 k1 => ?_)
  refine gsD [.alloc (AW h 8), .alloc (BC cc 64), .det (.bool false)] [0, 1, 2] [0, 0, 0] (fun L d => [.slice p n c] ++ (D d 1 3 ++ ([L.p 0, L.p 1] ++ D d 6 28))) (fun L => [(L.b 0, AW h 8), (L.b 1, BC cc 64)]) hp0 ⟨
    oB, oB, oA,
    trivial⟩ (fun L0 _ w1 hp1 => ?_)
  refine k1 _ _ ?_
  refine wp_seq_k (fun K2 k2 => ?_)
  refine wp_seq_k (fun K3 k3 => ?_)
  refine gsD [.det (.bool true), .det (.bool false)] [0, 1] [0, 1] (fun L d => [.slice p n c] ++ (D d 1 3 ++ ([L0.p 0, L0.p 1] ++ (D d 6 3 ++ ([.bool false] ++ D d 10 24))))) (fun L => [(L0.b 0, AW h 8), (L0.b 1, BC cc 64)]) hp1 ⟨
    oR (begun12 S), oN,
    trivial⟩ (fun L1 _ w2 hp2 => ?_)
  refine k3 _ _ ?_
  refine wp_cond_false (by kernel_rfl) ?_
  refine skips ?_
  refine k2 _ _ ?_
  refine wp_seq_k (fun K4 k4 => ?_)
  refine wp_seq_k (fun K5 k5 => ?_)
  refine gsD [.det (.slice p n c), .det (.int .i64 n), .det (.bool false)] [0, 1, 2] [0, 1, 3] (fun L d => [.slice p n c] ++ (D d 1 3 ++ ([L0.p 0, L0.p 1] ++ (D d 6 6 ++ ([.bool false] ++ D d 13 21))))) (fun L => [(L0.b 0, AW h 8), (L0.b 1, BC cc 64)]) hp2 ⟨
    oM, fun h => ⟨ob_len (p := p) (n := n) (c := c) (fun _ => rfl) h rfl (fun _ => by kernel_rfl) Try.underlying22⟩, oJ .i64 .i64 n 400 (h := fun w => (gtrI _ _ _ w).trans (by rw [decide_eq_false (by omega)])),
    trivial⟩ (fun L2 d2 w3 hp3 => ?_)
  refine k5 _ _ ?_
  refine wp_cond_false (by kernel_rfl) ?_
  refine skips ?_
  refine k4 _ _ ?_
  refine wp_seq_k (fun K6 k6 => ?_)
  refine gsA [.det (.slice p n c), .any (isR w.heap.size [L0.b 0, L0.b 1] (BC (tw g n) (n + 3)) n (n + 3)), .detV 1 (fun v => v)] [0, 1, 2] [0, 1, 3] (fun L => [.slice p n c] ++ (D d2 1 3 ++ ([L0.p 0, L0.p 1, d2 6, L.v 1] ++ (D d2 8 4 ++ ([.bool false, .slice p n c, L.v 1] ++ D d2 15 19))))) (fun L => [(L0.b 0, AW h 8), (L0.b 1, BC cc 64)]) hp3 ⟨
    oM, oY (fun L => #[.slice p n c]) (fun _ _ _ h hb => h.stay hb) (fun L w hs => newR hs [L0.b 0, L0.b 1] (lawTwin g p n c w hn (AtK.below hp hs.bel))), oAV,
    trivial⟩ (fun L3 w4 hp4 ha4 => ?_)
  obtain ⟨kb3b1, eb3b1, qb3b1, ub3b1, xb3b1⟩ := AnyF.at ha4 (j := 1) rfl rfl
  rw [eb3b1]
  have hp43b1 := Heap.add hp4 qb3b1 ub3b1 xb3b1
  refine k6 _ _ ?_
  refine wp_seq_k (fun K7 k7 => ?_)
  refine drD [.det (.slice (some ⟨kb3b1, 0, none⟩) n (n + 3)), .det (VB (dig g n) 32), .det (.slice p n c), .det (VB (dig g n) 32), .det (.bool true), .det (.bool true), .det (.slice (some ⟨kb3b1, 0, none⟩) n (n + 3)), .det (.slice p n c), .det (.bool true), .det (.bool true), .det (.bool true), .det (VW h 8), .det (VB cc 64), .det (VW (blk h cc (hz true 64)) 8), .det (VW h 8), .det (VB cc 64), .det (VW (blk h cc (hz true 64)) 8), .det (.bool true), .det (.bool true), .det (.bool true)] [0, 1, 2, 3, 4, 5, 6, 7, 8, 9, 10, 11, 12, 13, 14, 15, 16, 17, 18, 19] [0, 1, 0, 7, 15, 31, 63, 63, 255, 511, 1023, 2047, 2047, 8191, 2047, 2047, 65535, 131071, 262143, 524287] (fun L d => D d 0 6 ++ ([.bool true] ++ D d 7 27)) (fun L => [(L0.b 0, AW h 8), (L0.b 1, BC cc 64), (kb3b1, (BC (tw g n) (n + 3)))]) hp43b1 ⟨
    oM, oCS (fun L => #[.slice (some ⟨kb3b1, 0, none⟩) n (n + 3)]) (fun L w hs => S.sum g (some ⟨kb3b1, 0, none⟩) n (n + 3) w hn (by omega) (twAt (seen_at hs (k := 2) rfl) (by omega)) hg),
    oM, oH (v := VB (dig g n) 32) (vs := #[.slice p n c]) (fun w hb _ => refDigest g p n c w hn (AtK.below hp hb) hg), oW (u := VB (dig g n) 32) (v := VB (dig g n) 32) (r := .bool true) (fun w => guardA _ _ _ _ _ w) (fun w => eqlA _ w),
    oM, oM, oM, oCS (fun L => #[.slice (some ⟨kb3b1, 0, none⟩) n (n + 3), .slice p n c]) (fun L w hs => lawKept g kb3b1 p n (n + 3) c w hn rfl (seen_at hs (k := 2) rfl) (AtK.below hp hs.bel)),
    oP, oM, oL 0 0 rW8, oL 1 0 rB64, oH (v := VW (blk h cc (hz true 64)) 8) (vs := #[VW h 8, VB cc 64]) (fun w _ _ => S.block h cc w hc), oL 0 0 rW8, oL 1 0 rB64,
    oR (refBlk h cc hc), oW (u := VW (blk h cc (hz true 64)) 8) (v := VW (blk h cc (hz true 64)) 8) (r := .bool true) (fun w => guardA8 _ _ _ _ _ w) (fun w => eqlA8 _ w),
    oP, oA,
    trivial⟩ (fun L4 _ w5 hp5 => ?_)
  refine k7 _ _ ?_
  refine wp_ret ?_
  refine bodyPost_ret (v := .bool true) ?_ rfl ?_
  · exact res_t rfl (by kernel_rfl) _
  · exact ⟨rfl, hp5.bel⟩
theorem shaAll_walk (S : ShaK) (g : Nat → Int) (p : Option Addr) (n c : Nat) (h : Nat → BitVec 32) (cc : Nat → Int) (w : World) (hp : AtK .u8 w p n g) (hg : ∀ j, j < n → 0 ≤ g j ∧ g j < 256) (hc : ∀ i, i < 64 → 0 ≤ cc i ∧ cc i < 256) : Calls Try.prog 3 #[.slice p n c, VW h 8, VB cc 64] w (Ret (.bool true) w) := by
  by_cases hn : n ≤ 400
  · exact shaAll1 S g p n c h cc w hn hp hg hc
  · exact shaAll0 S g p n c h cc w hn
end Go.Proofs.Ytklddcicfeakfaa.fpn
