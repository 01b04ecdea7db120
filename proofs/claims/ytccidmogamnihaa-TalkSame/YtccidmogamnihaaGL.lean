/- KI KJ KK. -/
import Derived.Test.YtccidmogamnihaaGK
import Derived.Deep.LoopGhost
import Derived.Test.YtccidmogamnihaaGA
import Derived.ProofKit
import Derived.WalkKit
import Derived.OpenShut
import Derived.ShutString
import Derived.ChangeOld
import Derived.Below
import Derived.Deep.Slices
import Derived.Deep.Strs
/- Law 13: TalkAll. -/
namespace Go.Proofs.Ytccidmogamnihaa.fpn
open Go.RowKit Pl
set_option linter.unusedVariables false
set_option linter.unusedSimpArgs false
set_option maxRecDepth 4000

theorem TuAt.up {w x : World} {p : Option Addr} {n : Nat} {u : Tur} (h : TuAt w p n u) (hb : Below w.heap.size w x) : TuAt x p n u :=
  ⟨fun i hi => by
    obtain ⟨b, off, e, h0, h1, h2⟩ := h.at_ i hi
    exact ⟨b, off, e, cell_up h0 hb, cell_up h1 hb, cell_up h2 hb⟩, fun i hi => (h.byt i hi).below hb, h.tag, h.cap, h.rg⟩
theorem light_or (u : Tur) (n : Nat) : (n ≤ 12 ∧ ∀ i, i < n → u.bn i ≤ 200) ∨ 12 < n ∨ (n ≤ 12 ∧ ∃ j, j < n ∧ (∀ i, i < j → u.bn i ≤ 200) ∧ 200 < u.bn j) := by
  by_cases hn : n ≤ 12
  · by_cases h : ∃ j, j < n ∧ 200 < u.bn j
    · obtain ⟨j, hj, hm⟩ := least (p := fun j => j < n ∧ 200 < u.bn j) h.choose h.choose_spec
      refine .inr (.inr ⟨hn, j, hj.1, fun i hi => ?_, hj.2⟩)
      rcases Nat.lt_or_ge 200 (u.bn i) with h1 | h1
      · exact absurd (hm i ⟨by omega, h1⟩) (by omega)
      · exact h1
    · refine .inl ⟨hn, fun i hi => ?_⟩
      rcases Nat.lt_or_ge 200 (u.bn i) with h1 | h1
      · exact absurd ⟨i, hi, h1⟩ h
      · exact h1
  · exact .inr (.inl (by omega))
theorem tellA (b : Nat) (s : Nat → Int) (t : Int) (g : Nat → Int) (n : Nat) {v : Value} (w : World) (hbx : Box w b (BC s 32)) (hs0 : By s) (ht : 0 ≤ t ∧ t < 256) (h : isA g n v w) (hg : ∀ j, j < n → 0 ≤ g j ∧ g j < 256) (hn : n ≤ 200) : Calls Try.prog 12 #[.pointer (some ⟨b, 0, none⟩), .int .u8 t, v] w (RetTk (.tuple #[]) b (tellS s t g n) w) := by
  obtain ⟨p, c, rfl, hc, hp⟩ := h
  exact tellP b s t g p n c w hbx hs0 ht hp hc hg hn
theorem talkAll0 (st : ByteArray) (p : Option Addr) (n c : Nat) (w : World) (hs : 100 < st.size) : Calls Try.prog 3 #[.string st, .slice p n c] w (Ret (.bool true) w) := by
  have hp0 := Heap.start w
  go_enter Try.func3, Try.ntmps3
  refine wp_seq_k (fun K1 k1 => ?_)
  refine gs [.det (.bool false)] [0] [0] (fun L => [.string st, .slice p n c, undef, undef, .bool false] ++ U 107) (fun L => []) hp0 ⟨
    oA,
    trivial⟩ (fun L0 w1 hp1 => ?_)
  refine k1 _ _ ?_
  refine wp_seq_k (fun K2 k2 => ?_)
  refine wp_seq_k (fun K3 k3 => ?_)
  refine gs [.det (.bool true), .det (.bool false)] [0, 1] [0, 1] (fun L => [.string st, .slice p n c, undef, undef, .bool false] ++ (U 7 ++ ([.bool true, .bool false] ++ U 98))) (fun L => []) hp1 ⟨
    oR begun13, oN,
    trivial⟩ (fun L1 w2 hp2 => ?_)
  refine k3 _ _ ?_
  refine wp_cond_false (by kernel_rfl) ?_
  refine skips ?_
  refine k2 _ _ ?_
  refine wp_seq_k (fun K4 k4 => ?_)
  refine wp_seq_k (fun K5 k5 => ?_)
  refine gs [.det (.string st), .det (.int .i64 ((st.size : Nat) : Int)), .det (.bool true), .det (.bool true), .det undef, .det undef, .det undef, .det (.bool true)] [0, 1, 2, 3, 4, 5, 6, 7] [0, 1, 3, 7, 15, 31, 63, 127] (fun L => [.string st, .slice p n c, undef, undef, .bool false] ++ (U 7 ++ ([.bool true, .bool false, .string st, .int .i64 ((st.size : Nat) : Int), .bool true, .bool true, undef, undef, undef, .bool true] ++ U 90))) (fun L => []) hp2 ⟨
    oM, oLS (st := st) (n := st.size) rfl, oJ .i64 .i64 ((st.size : Nat) : Int) 100 (h := fun w => (gtrI _ _ _ w).trans (by rw [decide_eq_true (by omega)])), oM,
    oS, oS, oS, oP,
    trivial⟩ (fun L2 w3 hp3 => ?_)
  refine k5 _ _ ?_
  refine wp_cond_true (by kernel_rfl) ?_
  refine wp_seq_k (fun K6 k6 => ?_)
  refine gs [.det (.bool true)] [0] [0] (fun L => [.string st, .slice p n c, undef, undef, .bool true] ++ (U 7 ++ ([.bool true, .bool false, .string st, .int .i64 ((st.size : Nat) : Int), .bool true, .bool true, undef, undef, undef, .bool true] ++ U 90))) (fun L => []) hp3 ⟨
    oA,
    trivial⟩ (fun L3 w4 hp4 => ?_)
  refine k6 _ _ ?_
  refine wp_ret ?_
  refine bodyPost_ret (v := .bool true) ?_ rfl ?_
  · exact res_t rfl (by kernel_rfl) _
  · exact ⟨rfl, hp4.bel⟩
theorem talkAll1 (st : ByteArray) (p : Option Addr) (n c : Nat) (w : World) (hs : st.size ≤ 100) (hL : ∀ x, Below w.heap.size w x → Calls Try.prog 6 #[.slice p n c] x (Ret (.bool false) x)) : Calls Try.prog 3 #[.string st, .slice p n c] w (Ret (.bool true) w) := by
  have hp0 := Heap.start w
  go_enter Try.func3, Try.ntmps3
  refine wp_seq_k (fun K1 k1 => ?_)
  refine gs [.det (.bool false)] [0] [0] (fun L => [.string st, .slice p n c, undef, undef, .bool false] ++ U 107) (fun L => []) hp0 ⟨
    oA,
    trivial⟩ (fun L0 w1 hp1 => ?_)
  refine k1 _ _ ?_
  refine wp_seq_k (fun K2 k2 => ?_)
  refine wp_seq_k (fun K3 k3 => ?_)
  refine gs [.det (.bool true), .det (.bool false)] [0, 1] [0, 1] (fun L => [.string st, .slice p n c, undef, undef, .bool false] ++ (U 7 ++ ([.bool true, .bool false] ++ U 98))) (fun L => []) hp1 ⟨
    oR begun13, oN,
    trivial⟩ (fun L1 w2 hp2 => ?_)
  refine k3 _ _ ?_
  refine wp_cond_false (by kernel_rfl) ?_
  refine skips ?_
  refine k2 _ _ ?_
  refine wp_seq_k (fun K4 k4 => ?_)
  refine wp_seq_k (fun K5 k5 => ?_)
  refine gs [.det (.string st), .det (.int .i64 ((st.size : Nat) : Int)), .det (.bool false), .det (.bool false), .det (.slice p n c), .det (.bool false), .det (.bool true), .det (.bool true)] [0, 1, 2, 3, 4, 5, 6, 7] [0, 1, 3, 7, 15, 31, 63, 127] (fun L => [.string st, .slice p n c, undef, undef, .bool false] ++ (U 7 ++ ([.bool true, .bool false, .string st, .int .i64 ((st.size : Nat) : Int), .bool false, .bool false, .slice p n c, .bool false, .bool true, .bool true] ++ U 90))) (fun L => []) hp2 ⟨
    oM, oLS (st := st) (n := st.size) rfl, oJ .i64 .i64 ((st.size : Nat) : Int) 100 (h := fun w => (gtrI _ _ _ w).trans (by rw [decide_eq_false (by omega)])), oM,
    oM, oH (v := .bool false) (vs := #[.slice p n c]) (fun w hb _ => hL w hb), oN, oP,
    trivial⟩ (fun L2 w3 hp3 => ?_)
  refine k5 _ _ ?_
  refine wp_cond_true (by kernel_rfl) ?_
  refine wp_seq_k (fun K6 k6 => ?_)
  refine gs [.det (.bool true)] [0] [0] (fun L => [.string st, .slice p n c, undef, undef, .bool true] ++ (U 7 ++ ([.bool true, .bool false, .string st, .int .i64 ((st.size : Nat) : Int), .bool false, .bool false, .slice p n c, .bool false, .bool true, .bool true] ++ U 90))) (fun L => []) hp3 ⟨
    oA,
    trivial⟩ (fun L3 w4 hp4 => ?_)
  refine k6 _ _ ?_
  refine wp_ret ?_
  refine bodyPost_ret (v := .bool true) ?_ rfl ?_
  · exact res_t rfl (by kernel_rfl) _
  · exact ⟨rfl, hp4.bel⟩
def taI (st : ByteArray) (u : Tur) (p : Option Addr) (n c : Nat) (w : World) (q0 q1 : Nat) : Nat → Act → World → Prop := fun L a' w' => ∃ (m : Nat) (d : Nat → Value),
  a' = { tmps := ([d 0, .slice p n c] ++ (D d 2 3 ++ ([.pointer (some ⟨q0, 0, none⟩), .pointer (some ⟨q1, 0, none⟩), .int .i64 ((m : Nat) : Int)] ++ D d 8 104)) : List Value).toArray, defers := [] } ∧ m + L = n ∧ Heap w.heap.size w w' [(q0, BC (stp u (begS (sby st) st.size) m) 32), (q1, BC (stp u (begS (sby st) st.size) m) 32)]

set_option maxHeartbeats 8000000 in
theorem talkAll2 (st : ByteArray) (u : Tur) (p : Option Addr) (n c : Nat) (w : World) (hs : st.size ≤ 100) (hT : TuAt w p n u) (hn : n ≤ 12) (hl : ∀ i, i < n → u.bn i ≤ 200) : Calls Try.prog 3 #[.string st, .slice p n c] w (Ret (.bool true) w) := by
  have hp0 := Heap.start w
  go_enter Try.func3, Try.ntmps3
  refine wp_seq_k (fun K1 k1 => ?_)
  refine gs [.det (.bool false)] [0] [0] (fun L => [.string st, .slice p n c, undef, undef, .bool false] ++ U 107) (fun L => []) hp0 ⟨
    oA,
    trivial⟩ (fun L0 w1 hp1 => ?_)
  refine k1 _ _ ?_
  refine wp_seq_k (fun K2 k2 => ?_)
  refine wp_seq_k (fun K3 k3 => ?_)
  refine gs [.det (.bool true), .det (.bool false)] [0, 1] [0, 1] (fun L => [.string st, .slice p n c, undef, undef, .bool false] ++ (U 7 ++ ([.bool true, .bool false] ++ U 98))) (fun L => []) hp1 ⟨
    oR begun13, oN,
    trivial⟩ (fun L1 w2 hp2 => ?_)
  refine k3 _ _ ?_
  refine wp_cond_false (by kernel_rfl) ?_
  refine skips ?_
  refine k2 _ _ ?_
  refine wp_seq_k (fun K4 k4 => ?_)
  refine wp_seq_k (fun K5 k5 => ?_)
  refine gs [.det (.string st), .det (.int .i64 ((st.size : Nat) : Int)), .det (.bool false), .det (.bool false), .det (.slice p n c), .det (.bool true), .det (.bool false), .det (.bool false)] [0, 1, 2, 3, 4, 5, 6, 7] [0, 1, 3, 7, 15, 31, 63, 127] (fun L => [.string st, .slice p n c, undef, undef, .bool false] ++ (U 7 ++ ([.bool true, .bool false, .string st, .int .i64 ((st.size : Nat) : Int), .bool false, .bool false, .slice p n c, .bool true, .bool false, .bool false] ++ U 90))) (fun L => []) hp2 ⟨
    oM, oLS (st := st) (n := st.size) rfl, oJ .i64 .i64 ((st.size : Nat) : Int) 100 (h := fun w => (gtrI _ _ _ w).trans (by rw [decide_eq_false (by omega)])), oM,
    oM, oH (v := .bool true) (vs := #[.slice p n c]) (fun w hb _ => lightT u p n c w (hT.up hb) hn hl), oN, oP,
    trivial⟩ (fun L2 w3 hp3 => ?_)
  refine k5 _ _ ?_
  refine wp_cond_false (by kernel_rfl) ?_
  refine skips ?_
  refine k4 _ _ ?_
  refine wp_seq_k (fun K6 k6 => ?_)
  refine wp_region_list ?_
  refine gsC 1 [.det (.string st)] [0] [0] (fun L _ => [.string st, .slice p n c, undef, undef, .bool false, undef, undef, undef, undef, undef, undef, undef, .bool true, .bool false, .string st, .int .i64 ((st.size : Nat) : Int), .bool false, .bool false, .slice p n c, .bool true, .bool false, .bool false, .string st] ++ U 89) (fun L => []) hp3 ⟨
    oM,
    trivial⟩ (fun L3 _ w4 hp4 ha4 => ?_)
  refine oneL rfl rfl (wp_callG (vs := #[.string st]) (R := fun v x => ∃ k, v = .pointer (some ⟨k, 0, none⟩) ∧ w4.heap.size ≤ k ∧ Box x k (BC (begS (sby st) st.size) 32) ∧ Below w4.heap.size w4 x) (Calls.mono (tkNew st _ hs) (fun e x ⟨k, h1, h2, h3, h4⟩ => ⟨_, h1, k, rfl, h2, h3, h4⟩)) (fun vx1 x1 ⟨kx1, hvx1, h2x1, h3x1, h4x1⟩ => ?_))
  subst hvx1
  have hpx1 := Heap.add (Heap.later hp4 h4x1) (Nat.le_trans hp4.le h2x1) (fun b hb => Nat.lt_of_lt_of_le (Heap.lts hp4 b hb) h2x1) h3x1
  refine gsC 1 [.det (.string st)] [0] [0] (fun L _ => [.string st, .slice p n c, undef, undef, .bool false, undef, undef, undef, undef, undef, undef, undef, .bool true, .bool false, .string st, .int .i64 ((st.size : Nat) : Int), .bool false, .bool false, .slice p n c, .bool true, .bool false, .bool false, .string st, pt kx1 0, .string st] ++ U 87) (fun L => [(kx1, BC (begS (sby st) st.size) 32)]) hpx1 ⟨
    oM,
    trivial⟩ (fun L4 _ w5 hp5 ha5 => ?_)
  refine oneL rfl rfl (wp_callG (vs := #[.string st]) (R := fun v x => ∃ k, v = .pointer (some ⟨k, 0, none⟩) ∧ w5.heap.size ≤ k ∧ Box x k (BC (begS (sby st) st.size) 32) ∧ Below w5.heap.size w5 x) (Calls.mono (trNew st _ hs) (fun e x ⟨k, h1, h2, h3, h4⟩ => ⟨_, h1, k, rfl, h2, h3, h4⟩)) (fun vx2 x2 ⟨kx2, hvx2, h2x2, h3x2, h4x2⟩ => ?_))
  subst hvx2
  have hpx2 := Heap.add (Heap.later hp5 h4x2) (Nat.le_trans hp5.le h2x2) (fun b hb => Nat.lt_of_lt_of_le (Heap.lts hp5 b hb) h2x2) h3x2
  refine gsC 2 [.det (pt kx1 0), .det (pt kx2 0)] [0, 1] [0, 1] (fun L _ => [.string st, .slice p n c, undef, undef, .bool false, pt kx1 0, pt kx2 0, undef, undef, undef, undef, undef, .bool true, .bool false, .string st, .int .i64 ((st.size : Nat) : Int), .bool false, .bool false, .slice p n c, .bool true, .bool false, .bool false, .string st, pt kx1 0, .string st, pt kx2 0] ++ U 86) (fun L => [(kx1, BC (begS (sby st) st.size) 32), (kx2, BC (begS (sby st) st.size) 32)]) hpx2 ⟨
    oA, oA,
    trivial⟩ (fun L5 _ w6 hp6 ha6 => ?_)
  refine wpList_nil ?_
  refine k6 _ _ ?_
  refine wp_seq_k (fun K7 k7 => ?_)
  refine wp_seq_k (fun K8 k8 => ?_)
  refine gs [.det (.int .i64 0)] [0] [0] (fun L => [.string st, .slice p n c, undef, undef, .bool false, pt kx1 0, pt kx2 0, .int .i64 0] ++ (U 4 ++ ([.bool true, .bool false, .string st, .int .i64 ((st.size : Nat) : Int), .bool false, .bool false, .slice p n c, .bool true, .bool false, .bool false, .string st, pt kx1 0, .string st, pt kx2 0] ++ U 86))) (fun L => [(kx1, BC (begS (sby st) st.size) 32), (kx2, BC (begS (sby st) st.size) 32)]) hp6 ⟨
    oA,
    trivial⟩ (fun L6 w7 hp7 => ?_)
  refine k8 _ _ ?_
  refine wp_block_k (fun K9 k9 => ?_)
  refine wp_loop_ghost (taI st u p n c w kx1 kx2) n ⟨0, (fun zz => ([.string st, .slice p n c, undef, undef, .bool false, pt kx1 0, pt kx2 0, .int .i64 0] ++ (U 4 ++ ([.bool true, .bool false, .string st, .int .i64 ((st.size : Nat) : Int), .bool false, .bool false, .slice p n c, .bool true, .bool false, .bool false, .string st, pt kx1 0, .string st, pt kx2 0] ++ U 86)) : List Value).getD zz undef), by kernel_rfl, Nat.zero_add _, by rw [stp_0]; exact hp7⟩ ?_
  rintro L a' W ⟨m, d, rfl, hL, hJ⟩
  by_cases hL0 : L = 0
  rotate_left
  · skip
    have hm : m < n := by omega
    obtain ⟨b0, o0, ep, hc0, hc1, hc2⟩ := hT.at_ m hm
    have hlm := hl m hm
    have htg := hT.tag m hm
    have hBy := By.stp (u := u) (By.begS (sby st) st.size) m
    cases hq : u.ask m
    · skip
      rw [hq] at hc0
      refine wp_seq_k (fun K10 k10 => ?_)
      refine wp_seq_k (fun K11 k11 => ?_)
      refine gs [.det (.int .i64 ((m : Nat) : Int)), .det (.slice p n c), .det (.int .i64 n), .det (.bool true)] [0, 1, 2, 3] [0, 0, 2, 7] (fun L => [d 0, .slice p n c] ++ (D d 2 3 ++ ([pt kx1 0, pt kx2 0, .int .i64 ((m : Nat) : Int)] ++ (D d 8 18 ++ ([.int .i64 ((m : Nat) : Int), .slice p n c, .int .i64 n, .bool true] ++ D d 30 82))))) (fun L => [(kx1, BC (stp u (begS (sby st) st.size) m) 32), (kx2, BC (stp u (begS (sby st) st.size) m) 32)]) hJ ⟨
        oM, oM, fun h => ⟨ob_len (p := p) (n := n) (c := c) (fun _ => rfl) h rfl (fun _ => by kernel_rfl) Try.underlying22⟩, oJ .i64 .i64 ((m : Nat) : Int) n (h := fun w => (lssI _ _ _ w).trans (by rw [decide_eq_true (by omega)])),
        trivial⟩ (fun L7 w8 hp8 => ?_)
      refine k11 _ _ ?_
      refine wp_cond_true (by kernel_rfl) ?_
      refine skips ?_
      refine k10 _ _ ?_
      refine wp_seq_k (fun K12 k12 => ?_)
      refine wp_block_k (fun K13 k13 => ?_)
      refine wp_seq_k (fun K14 k14 => ?_)
      refine wp_seq_k (fun K15 k15 => ?_)
      refine gs [.det (.slice p n c), .det (.int .i64 ((m : Nat) : Int)), .det (.pointer (some ⟨b0, o0 + m * 3, none⟩)), .det (.pointer (some ⟨b0, o0 + m * 3, none⟩)), .det (.bool false)] [0, 1, 2, 3, 4] [0, 0, 3, 7, 15] (fun L => [d 0, .slice p n c] ++ (D d 2 3 ++ ([pt kx1 0, pt kx2 0, .int .i64 ((m : Nat) : Int)] ++ (D d 8 18 ++ ([.int .i64 ((m : Nat) : Int), .slice p n c, .int .i64 n, .bool true] ++ (D d 30 2 ++ ([.slice p n c, .int .i64 ((m : Nat) : Int), .pointer (some ⟨b0, o0 + m * 3, none⟩), .pointer (some ⟨b0, o0 + m * 3, none⟩), .bool false] ++ D d 37 75))))))) (fun L => [(kx1, BC (stp u (begS (sby st) st.size) m) 32), (kx2, BC (stp u (begS (sby st) st.size) m) 32)]) hp8 ⟨
        oM, oM, oIP (n := n) (c := c) (sz := 3) m ep Try.underlying22 sizeTu hm, oF fTu0, oLT oneB (fun w hs => cell_up hc0 hs.bel),
        trivial⟩ (fun L8 w9 hp9 => ?_)
      refine k15 _ _ ?_
      refine wp_cond_false (by kernel_rfl) ?_
      refine wp_seq_k (fun K16 k16 => ?_)
      refine dT 11 [.det (pt kx1 0), .det (.slice p n c), .det (.int .i64 ((m : Nat) : Int)), .det (.pointer (some ⟨b0, o0 + m * 3, none⟩)), .det (.pointer (some ⟨b0, o0 + m * 3 + 1, none⟩)), .det (.int .u8 (u.tag m)), .det (.slice p n c), .det (.int .i64 ((m : Nat) : Int)), .det (.pointer (some ⟨b0, o0 + m * 3, none⟩)), .det (.pointer (some ⟨b0, o0 + m * 3 + 2, none⟩)), .det (.slice (u.bp m) (u.bn m) (u.bc m)), .det (.tuple #[])] [0, 1, 2, 3, 4, 5, 6, 7, 8, 9, 10] [0, 0, 0, 6, 14, 30, 0, 0, 192, 448, 960, 2047] (fun L => [d 0, .slice p n c] ++ (D d 2 3 ++ ([pt kx1 0, pt kx2 0, .int .i64 ((m : Nat) : Int)] ++ (D d 8 18 ++ ([.int .i64 ((m : Nat) : Int), .slice p n c, .int .i64 n, .bool true] ++ (D d 30 2 ++ ([.slice p n c, .int .i64 ((m : Nat) : Int), .pointer (some ⟨b0, o0 + m * 3, none⟩), .pointer (some ⟨b0, o0 + m * 3, none⟩), .bool false] ++ (D d 37 21 ++ ([pt kx1 0, .slice p n c, .int .i64 ((m : Nat) : Int), .pointer (some ⟨b0, o0 + m * 3, none⟩), .pointer (some ⟨b0, o0 + m * 3 + 1, none⟩), .int .u8 (u.tag m), .slice p n c, .int .i64 ((m : Nat) : Int), .pointer (some ⟨b0, o0 + m * 3, none⟩), .pointer (some ⟨b0, o0 + m * 3 + 2, none⟩), .slice (u.bp m) (u.bn m) (u.bc m)] ++ D d 69 43))))))))) hp9 ⟨
        oM, oM, oM, oIP (n := n) (c := c) (sz := 3) m ep Try.underlying22 sizeTu hm, oF fTu1, oLT oneY (fun w hs => cell_up hc1 hs.bel), oM, oM, oIP (n := n) (c := c) (sz := 3) m ep Try.underlying22 sizeTu hm, oF fTu2, oLT oneYS (fun w hs => cell_up hc2 hs.bel), trivial⟩ (fun L9 w10t hp10t ha10t => ?_)
      refine tail1 (by kernel_rfl) (wpOp_of rfl rfl (wp_callG (vs := #[pt kx1 0, .int .u8 (u.tag m), .slice (u.bp m) (u.bn m) (u.bc m)]) (R := fun v x => v = .tuple #[] ∧ Chg kx1 w10t x ∧ Box x kx1 (BC (tellS (stp u (begS (sby st) st.size) m) (u.tag m) (u.bf m) (u.bn m)) 32)) (Calls.mono (tellP kx1 (stp u (begS (sby st) st.size) m) (u.tag m) (u.bf m) (u.bp m) (u.bn m) (u.bc m) _ (hp10t.bound 0 rfl).2 hBy htg ((hT.byt m hm).below hp10t.bel) (hT.cap m hm) (hT.rg m hm) hlm) (fun e x ⟨h1, h2, h3⟩ => ⟨_, h1, rfl, h2, h3⟩)) (fun vx3 x3 ⟨hvx3, h2x3, h3x3⟩ => ?_)))
      subst hvx3
      have hpx3 := Heap.chg (H1 := []) (H2 := [_]) hp10t h2x3 h3x3
      refine k16 _ _ ?_
      refine dT 11 [.det (pt kx2 0), .det (.slice p n c), .det (.int .i64 ((m : Nat) : Int)), .det (.pointer (some ⟨b0, o0 + m * 3, none⟩)), .det (.pointer (some ⟨b0, o0 + m * 3 + 1, none⟩)), .det (.int .u8 (u.tag m)), .det (.slice p n c), .det (.int .i64 ((m : Nat) : Int)), .det (.pointer (some ⟨b0, o0 + m * 3, none⟩)), .det (.pointer (some ⟨b0, o0 + m * 3 + 2, none⟩)), .det (.slice (u.bp m) (u.bn m) (u.bc m)), .det (.tuple #[])] [0, 1, 2, 3, 4, 5, 6, 7, 8, 9, 10] [0, 0, 0, 6, 14, 30, 0, 0, 192, 448, 960, 2047] (fun L => [d 0, .slice p n c] ++ (D d 2 3 ++ ([pt kx1 0, pt kx2 0, .int .i64 ((m : Nat) : Int)] ++ (D d 8 18 ++ ([.int .i64 ((m : Nat) : Int), .slice p n c, .int .i64 n, .bool true] ++ (D d 30 2 ++ ([.slice p n c, .int .i64 ((m : Nat) : Int), .pointer (some ⟨b0, o0 + m * 3, none⟩), .pointer (some ⟨b0, o0 + m * 3, none⟩), .bool false] ++ (D d 37 21 ++ ([pt kx1 0, .slice p n c, .int .i64 ((m : Nat) : Int), .pointer (some ⟨b0, o0 + m * 3, none⟩), .pointer (some ⟨b0, o0 + m * 3 + 1, none⟩), .int .u8 (u.tag m), .slice p n c, .int .i64 ((m : Nat) : Int), .pointer (some ⟨b0, o0 + m * 3, none⟩), .pointer (some ⟨b0, o0 + m * 3 + 2, none⟩), .slice (u.bp m) (u.bn m) (u.bc m), .tuple #[], pt kx2 0, .slice p n c, .int .i64 ((m : Nat) : Int), .pointer (some ⟨b0, o0 + m * 3, none⟩), .pointer (some ⟨b0, o0 + m * 3 + 1, none⟩), .int .u8 (u.tag m), .slice p n c, .int .i64 ((m : Nat) : Int), .pointer (some ⟨b0, o0 + m * 3, none⟩), .pointer (some ⟨b0, o0 + m * 3 + 2, none⟩), .slice (u.bp m) (u.bn m) (u.bc m)] ++ D d 81 31))))))))) hpx3 ⟨
        oM, oM, oM, oIP (n := n) (c := c) (sz := 3) m ep Try.underlying22 sizeTu hm, oF fTu1, oLT oneY (fun w hs => cell_up hc1 hs.bel), oM, oM, oIP (n := n) (c := c) (sz := 3) m ep Try.underlying22 sizeTu hm, oF fTu2, oLT oneYS (fun w hs => cell_up hc2 hs.bel), trivial⟩ (fun L10 w11t hp11t ha11t => ?_)
      refine tail1 (by kernel_rfl) (wpOp_of rfl rfl (wp_callG (vs := #[pt kx2 0, .int .u8 (u.tag m), .slice (u.bp m) (u.bn m) (u.bc m)]) (R := fun v x => v = .tuple #[] ∧ Chg kx2 w11t x ∧ Box x kx2 (BC (tellS (stp u (begS (sby st) st.size) m) (u.tag m) (u.bf m) (u.bn m)) 32)) (Calls.mono (rtellP kx2 (stp u (begS (sby st) st.size) m) (u.tag m) (u.bf m) (u.bp m) (u.bn m) (u.bc m) _ (hp11t.bound 1 rfl).2 hBy htg ((hT.byt m hm).below hp11t.bel) (hT.cap m hm) (hT.rg m hm) hlm) (fun e x ⟨h1, h2, h3⟩ => ⟨_, h1, rfl, h2, h3⟩)) (fun vx4 x4 ⟨hvx4, h2x4, h3x4⟩ => ?_)))
      subst hvx4
      have hpx4 := Heap.chg (H1 := [_]) (H2 := []) hp11t h2x4 h3x4
      refine k14 _ _ ?_
      refine wp_seq_k (fun K17 k17 => ?_)
      refine dr [.det (pt kx1 0), .det (VB (tellS (stp u (begS (sby st) st.size) m) (u.tag m) (u.bf m) (u.bn m)) 32), .det (pt kx2 0), .det (pt kx2 0), .det (pt kx2 0), .det (VB (tellS (stp u (begS (sby st) st.size) m) (u.tag m) (u.bf m) (u.bn m)) 32), .det (.bool false)] [0, 1, 2, 3, 4, 5, 6] [0, 1, 0, 4, 12, 28, 63] (fun L => [d 0, .slice p n c] ++ (D d 2 3 ++ ([pt kx1 0, pt kx2 0, .int .i64 ((m : Nat) : Int)] ++ (D d 8 18 ++ ([.int .i64 ((m : Nat) : Int), .slice p n c, .int .i64 n, .bool true] ++ (D d 30 2 ++ ([.slice p n c, .int .i64 ((m : Nat) : Int), .pointer (some ⟨b0, o0 + m * 3, none⟩), .pointer (some ⟨b0, o0 + m * 3, none⟩), .bool false] ++ (D d 37 21 ++ ([pt kx1 0, .slice p n c, .int .i64 ((m : Nat) : Int), .pointer (some ⟨b0, o0 + m * 3, none⟩), .pointer (some ⟨b0, o0 + m * 3 + 1, none⟩), .int .u8 (u.tag m), .slice p n c, .int .i64 ((m : Nat) : Int), .pointer (some ⟨b0, o0 + m * 3, none⟩), .pointer (some ⟨b0, o0 + m * 3 + 2, none⟩), .slice (u.bp m) (u.bn m) (u.bc m), .tuple #[], pt kx2 0, .slice p n c, .int .i64 ((m : Nat) : Int), .pointer (some ⟨b0, o0 + m * 3, none⟩), .pointer (some ⟨b0, o0 + m * 3 + 1, none⟩), .int .u8 (u.tag m), .slice p n c, .int .i64 ((m : Nat) : Int), .pointer (some ⟨b0, o0 + m * 3, none⟩), .pointer (some ⟨b0, o0 + m * 3 + 2, none⟩), .slice (u.bp m) (u.bn m) (u.bc m), .tuple #[], pt kx1 0, VB (tellS (stp u (begS (sby st) st.size) m) (u.tag m) (u.bf m) (u.bn m)) 32, pt kx2 0, pt kx2 0, pt kx2 0, VB (tellS (stp u (begS (sby st) st.size) m) (u.tag m) (u.bf m) (u.bn m)) 32, .bool false] ++ D d 89 23))))))))) (fun L => [(kx1, BC (tellS (stp u (begS (sby st) st.size) m) (u.tag m) (u.bf m) (u.bn m)) 32), (kx2, BC (tellS (stp u (begS (sby st) st.size) m) (u.tag m) (u.bf m) (u.bn m)) 32)]) hpx4 ⟨
        oM, oCT (fun w hs => stateP (hs.base 0 _ _ rfl (by kernel_rfl))), oM, oNC, oF fTr0, oL 1 0 rB32, oW (u := VB (tellS (stp u (begS (sby st) st.size) m) (u.tag m) (u.bf m) (u.bn m)) 32) (v := VB (tellS (stp u (begS (sby st) st.size) m) (u.tag m) (u.bf m) (u.bn m)) 32) (r := .bool false) (fun w => guardA _ _ _ _ _ w) (fun w => neqA _ w),
        trivial⟩ (fun L11 w12 hp12 => ?_)
      refine k17 _ _ ?_
      refine wp_cond_false (by kernel_rfl) ?_
      refine skips ?_
      refine k13 _ _ _ ?_
      refine block_normal ?_
      refine k12 _ _ ?_
      refine gs [.det (.int .i64 ((m : Nat) : Int)), .det (.int .i64 ((m + 1 : Nat) : Int)), .det (.int .i64 ((m + 1 : Nat) : Int))] [0, 1, 2] [0, 1, 3] (fun L => [d 0, .slice p n c] ++ (D d 2 3 ++ ([pt kx1 0, pt kx2 0, .int .i64 ((m + 1 : Nat) : Int)] ++ (D d 8 18 ++ ([.int .i64 ((m : Nat) : Int), .slice p n c, .int .i64 n, .bool true, .int .i64 ((m : Nat) : Int), .int .i64 ((m + 1 : Nat) : Int), .slice p n c, .int .i64 ((m : Nat) : Int), .pointer (some ⟨b0, o0 + m * 3, none⟩), .pointer (some ⟨b0, o0 + m * 3, none⟩), .bool false] ++ (D d 37 21 ++ ([pt kx1 0, .slice p n c, .int .i64 ((m : Nat) : Int), .pointer (some ⟨b0, o0 + m * 3, none⟩), .pointer (some ⟨b0, o0 + m * 3 + 1, none⟩), .int .u8 (u.tag m), .slice p n c, .int .i64 ((m : Nat) : Int), .pointer (some ⟨b0, o0 + m * 3, none⟩), .pointer (some ⟨b0, o0 + m * 3 + 2, none⟩), .slice (u.bp m) (u.bn m) (u.bc m), .tuple #[], pt kx2 0, .slice p n c, .int .i64 ((m : Nat) : Int), .pointer (some ⟨b0, o0 + m * 3, none⟩), .pointer (some ⟨b0, o0 + m * 3 + 1, none⟩), .int .u8 (u.tag m), .slice p n c, .int .i64 ((m : Nat) : Int), .pointer (some ⟨b0, o0 + m * 3, none⟩), .pointer (some ⟨b0, o0 + m * 3 + 2, none⟩), .slice (u.bp m) (u.bn m) (u.bc m), .tuple #[], pt kx1 0, VB (tellS (stp u (begS (sby st) st.size) m) (u.tag m) (u.bf m) (u.bn m)) 32, pt kx2 0, pt kx2 0, pt kx2 0, VB (tellS (stp u (begS (sby st) st.size) m) (u.tag m) (u.bf m) (u.bn m)) 32, .bool false] ++ D d 89 23))))))) (fun L => [(kx1, BC (tellS (stp u (begS (sby st) st.size) m) (u.tag m) (u.bf m) (u.bn m)) 32), (kx2, BC (tellS (stp u (begS (sby st) st.size) m) (u.tag m) (u.bf m) (u.bn m)) 32)]) hp12 ⟨
        oM, oJ .i64 .i64 ((m : Nat) : Int) 1 (h := fun w => add1N _ (m) (by omega) w), oA,
        trivial⟩ (fun L12 w13 hp13 => ?_)
      exact ⟨L - 1, by omega, m + 1, (fun zz => ([d 0, .slice p n c] ++ (D d 2 3 ++ ([pt kx1 0, pt kx2 0, .int .i64 ((m + 1 : Nat) : Int)] ++ (D d 8 18 ++ ([.int .i64 ((m : Nat) : Int), .slice p n c, .int .i64 n, .bool true, .int .i64 ((m : Nat) : Int), .int .i64 ((m + 1 : Nat) : Int), .slice p n c, .int .i64 ((m : Nat) : Int), .pointer (some ⟨b0, o0 + m * 3, none⟩), .pointer (some ⟨b0, o0 + m * 3, none⟩), .bool false] ++ (D d 37 21 ++ ([pt kx1 0, .slice p n c, .int .i64 ((m : Nat) : Int), .pointer (some ⟨b0, o0 + m * 3, none⟩), .pointer (some ⟨b0, o0 + m * 3 + 1, none⟩), .int .u8 (u.tag m), .slice p n c, .int .i64 ((m : Nat) : Int), .pointer (some ⟨b0, o0 + m * 3, none⟩), .pointer (some ⟨b0, o0 + m * 3 + 2, none⟩), .slice (u.bp m) (u.bn m) (u.bc m), .tuple #[], pt kx2 0, .slice p n c, .int .i64 ((m : Nat) : Int), .pointer (some ⟨b0, o0 + m * 3, none⟩), .pointer (some ⟨b0, o0 + m * 3 + 1, none⟩), .int .u8 (u.tag m), .slice p n c, .int .i64 ((m : Nat) : Int), .pointer (some ⟨b0, o0 + m * 3, none⟩), .pointer (some ⟨b0, o0 + m * 3 + 2, none⟩), .slice (u.bp m) (u.bn m) (u.bc m), .tuple #[], pt kx1 0, VB (tellS (stp u (begS (sby st) st.size) m) (u.tag m) (u.bf m) (u.bn m)) 32, pt kx2 0, pt kx2 0, pt kx2 0, VB (tellS (stp u (begS (sby st) st.size) m) (u.tag m) (u.bf m) (u.bn m)) 32, .bool false] ++ D d 89 23)))))) : List Value).getD zz undef), by kernel_rfl, by omega, by rw [← stp_t hq]; exact hp13⟩
    · skip
      rw [hq] at hc0
      refine wp_seq_k (fun K18 k18 => ?_)
      refine wp_seq_k (fun K19 k19 => ?_)
      refine gs [.det (.int .i64 ((m : Nat) : Int)), .det (.slice p n c), .det (.int .i64 n), .det (.bool true)] [0, 1, 2, 3] [0, 0, 2, 7] (fun L => [d 0, .slice p n c] ++ (D d 2 3 ++ ([pt kx1 0, pt kx2 0, .int .i64 ((m : Nat) : Int)] ++ (D d 8 18 ++ ([.int .i64 ((m : Nat) : Int), .slice p n c, .int .i64 n, .bool true] ++ D d 30 82))))) (fun L => [(kx1, BC (stp u (begS (sby st) st.size) m) 32), (kx2, BC (stp u (begS (sby st) st.size) m) 32)]) hJ ⟨
        oM, oM, fun h => ⟨ob_len (p := p) (n := n) (c := c) (fun _ => rfl) h rfl (fun _ => by kernel_rfl) Try.underlying22⟩, oJ .i64 .i64 ((m : Nat) : Int) n (h := fun w => (lssI _ _ _ w).trans (by rw [decide_eq_true (by omega)])),
        trivial⟩ (fun L13 w14 hp14 => ?_)
      refine k19 _ _ ?_
      refine wp_cond_true (by kernel_rfl) ?_
      refine skips ?_
      refine k18 _ _ ?_
      refine wp_seq_k (fun K20 k20 => ?_)
      refine wp_block_k (fun K21 k21 => ?_)
      refine wp_seq_k (fun K22 k22 => ?_)
      refine wp_seq_k (fun K23 k23 => ?_)
      refine gs [.det (.slice p n c), .det (.int .i64 ((m : Nat) : Int)), .det (.pointer (some ⟨b0, o0 + m * 3, none⟩)), .det (.pointer (some ⟨b0, o0 + m * 3, none⟩)), .det (.bool true)] [0, 1, 2, 3, 4] [0, 0, 3, 7, 15] (fun L => [d 0, .slice p n c] ++ (D d 2 3 ++ ([pt kx1 0, pt kx2 0, .int .i64 ((m : Nat) : Int)] ++ (D d 8 18 ++ ([.int .i64 ((m : Nat) : Int), .slice p n c, .int .i64 n, .bool true] ++ (D d 30 2 ++ ([.slice p n c, .int .i64 ((m : Nat) : Int), .pointer (some ⟨b0, o0 + m * 3, none⟩), .pointer (some ⟨b0, o0 + m * 3, none⟩), .bool true] ++ D d 37 75))))))) (fun L => [(kx1, BC (stp u (begS (sby st) st.size) m) 32), (kx2, BC (stp u (begS (sby st) st.size) m) 32)]) hp14 ⟨
        oM, oM, oIP (n := n) (c := c) (sz := 3) m ep Try.underlying22 sizeTu hm, oF fTu0, oLT oneB (fun w hs => cell_up hc0 hs.bel),
        trivial⟩ (fun L14 w15 hp15 => ?_)
      refine k23 _ _ ?_
      refine wp_cond_true (by kernel_rfl) ?_
      refine wp_seq_k (fun K24 k24 => ?_)
      refine gs [.det (pt kx1 0), .det (.slice p n c), .det (.int .i64 ((m : Nat) : Int)), .det (.pointer (some ⟨b0, o0 + m * 3, none⟩)), .det (.pointer (some ⟨b0, o0 + m * 3 + 1, none⟩)), .det (.int .u8 (u.tag m)), .turn 0 (RV (askN (stp u (begS (sby st) st.size) m) (u.tag m))) (BC (askS (stp u (begS (sby st) st.size) m) (u.tag m)) 32), .alloc (RC 0), .store (.new 7) 0 (RC (askN (stp u (begS (sby st) st.size) m) (u.tag m))) (RC (askN (stp u (begS (sby st) st.size) m) (u.tag m)))] [0, 1, 2, 3, 4, 5, 6, 7, 8] [0, 0, 0, 6, 14, 30, 63, 0, 255] (fun L => [d 0, .slice p n c] ++ (D d 2 3 ++ ([pt kx1 0, pt kx2 0, .int .i64 ((m : Nat) : Int), L.p 7] ++ (D d 9 17 ++ ([.int .i64 ((m : Nat) : Int), .slice p n c, .int .i64 n, .bool true] ++ (D d 30 2 ++ ([.slice p n c, .int .i64 ((m : Nat) : Int), .pointer (some ⟨b0, o0 + m * 3, none⟩), .pointer (some ⟨b0, o0 + m * 3, none⟩), .bool true, pt kx1 0, .slice p n c, .int .i64 ((m : Nat) : Int), .pointer (some ⟨b0, o0 + m * 3, none⟩), .pointer (some ⟨b0, o0 + m * 3 + 1, none⟩), .int .u8 (u.tag m), RV (askN (stp u (begS (sby st) st.size) m) (u.tag m))] ++ D d 44 68))))))) (fun L => [(kx1, BC (askS (stp u (begS (sby st) st.size) m) (u.tag m)) 32), (kx2, BC (stp u (begS (sby st) st.size) m) 32), (L.b 7, RC (askN (stp u (begS (sby st) st.size) m) (u.tag m)))]) hp15 ⟨
        oM, oM, oM, oIP (n := n) (c := c) (sz := 3) m ep Try.underlying22 sizeTu hm, oF fTu1, oLT oneY (fun w hs => cell_up hc1 hs.bel), oTu (fun w hb hx => askP kx1 (stp u (begS (sby st) st.size) m) (u.tag m) w hx hBy htg),
        oZ rR, oT rR,
        trivial⟩ (fun L15 w16 hp16 => ?_)
      refine k24 _ _ ?_
      refine wp_seq_k (fun K25 k25 => ?_)
      refine dr [.det (RV (askN (stp u (begS (sby st) st.size) m) (u.tag m))), .det (pt kx2 0), .det (.slice p n c), .det (.int .i64 ((m : Nat) : Int)), .det (.pointer (some ⟨b0, o0 + m * 3, none⟩)), .det (.pointer (some ⟨b0, o0 + m * 3 + 1, none⟩)), .det (.int .u8 (u.tag m)), .turn 1 (RV (askN (stp u (begS (sby st) st.size) m) (u.tag m))) (BC (askS (stp u (begS (sby st) st.size) m) (u.tag m)) 32), .det (.bool false), .det (.bool false), .det (RV (askN (stp u (begS (sby st) st.size) m) (u.tag m))), .det (.bool true), .det (.bool false), .det (.bool false)] [0, 1, 2, 3, 4, 5, 6, 7, 8, 9, 10, 11, 12, 13] [0, 0, 0, 0, 12, 28, 60, 126, 255, 511, 1023, 2047, 4095, 8191] (fun L => [d 0, .slice p n c] ++ (D d 2 3 ++ ([pt kx1 0, pt kx2 0, .int .i64 ((m : Nat) : Int), L15.p 7] ++ (D d 9 17 ++ ([.int .i64 ((m : Nat) : Int), .slice p n c, .int .i64 n, .bool true] ++ (D d 30 2 ++ ([.slice p n c, .int .i64 ((m : Nat) : Int), .pointer (some ⟨b0, o0 + m * 3, none⟩), .pointer (some ⟨b0, o0 + m * 3, none⟩), .bool true, pt kx1 0, .slice p n c, .int .i64 ((m : Nat) : Int), .pointer (some ⟨b0, o0 + m * 3, none⟩), .pointer (some ⟨b0, o0 + m * 3 + 1, none⟩), .int .u8 (u.tag m), RV (askN (stp u (begS (sby st) st.size) m) (u.tag m)), RV (askN (stp u (begS (sby st) st.size) m) (u.tag m)), pt kx2 0, .slice p n c, .int .i64 ((m : Nat) : Int), .pointer (some ⟨b0, o0 + m * 3, none⟩), .pointer (some ⟨b0, o0 + m * 3 + 1, none⟩), .int .u8 (u.tag m), RV (askN (stp u (begS (sby st) st.size) m) (u.tag m)), .bool false, .bool false, RV (askN (stp u (begS (sby st) st.size) m) (u.tag m)), .bool true, .bool false, .bool false] ++ D d 58 54))))))) (fun L => [(kx1, BC (askS (stp u (begS (sby st) st.size) m) (u.tag m)) 32), (kx2, BC (askS (stp u (begS (sby st) st.size) m) (u.tag m)) 32), (L15.b 7, RC (askN (stp u (begS (sby st) st.size) m) (u.tag m)))]) hp16 ⟨
        oGT rR (fun w hs => (hs.base 2 _ _ rfl (by kernel_rfl)).cells), oM, oM, oM, oIP (n := n) (c := c) (sz := 3) m ep Try.underlying22 sizeTu hm,
        oF fTu1, oLT oneY (fun w hs => cell_up hc1 hs.bel), oTu (fun w hb hx => raskP kx2 (stp u (begS (sby st) st.size) m) (u.tag m) w hx hBy htg), oW (u := RV (askN (stp u (begS (sby st) st.size) m) (u.tag m))) (v := RV (askN (stp u (begS (sby st) st.size) m) (u.tag m))) (r := .bool false) (fun w => guardR _ _ _ _ _ w) (fun w => neqRs _ w),
        oM, oGT rR (fun w hs => (hs.base 2 _ _ rfl (by kernel_rfl)).cells), oCT (fun w _ => mayAsk (stp u (begS (sby st) st.size) m) (u.tag m) w), oN, oP,
        trivial⟩ (fun L16 w17 hp17 => ?_)
      refine k25 _ _ ?_
      refine wp_cond_false (by kernel_rfl) ?_
      refine skips ?_
      refine k22 _ _ ?_
      refine wp_seq_k (fun K26 k26 => ?_)
      refine dr [.det (pt kx1 0), .det (VB (askS (stp u (begS (sby st) st.size) m) (u.tag m)) 32), .det (pt kx2 0), .det (pt kx2 0), .det (pt kx2 0), .det (VB (askS (stp u (begS (sby st) st.size) m) (u.tag m)) 32), .det (.bool false)] [0, 1, 2, 3, 4, 5, 6] [0, 1, 0, 4, 12, 28, 63] (fun L => [d 0, .slice p n c] ++ (D d 2 3 ++ ([pt kx1 0, pt kx2 0, .int .i64 ((m : Nat) : Int), L15.p 7] ++ (D d 9 17 ++ ([.int .i64 ((m : Nat) : Int), .slice p n c, .int .i64 n, .bool true] ++ (D d 30 2 ++ ([.slice p n c, .int .i64 ((m : Nat) : Int), .pointer (some ⟨b0, o0 + m * 3, none⟩), .pointer (some ⟨b0, o0 + m * 3, none⟩), .bool true, pt kx1 0, .slice p n c, .int .i64 ((m : Nat) : Int), .pointer (some ⟨b0, o0 + m * 3, none⟩), .pointer (some ⟨b0, o0 + m * 3 + 1, none⟩), .int .u8 (u.tag m), RV (askN (stp u (begS (sby st) st.size) m) (u.tag m)), RV (askN (stp u (begS (sby st) st.size) m) (u.tag m)), pt kx2 0, .slice p n c, .int .i64 ((m : Nat) : Int), .pointer (some ⟨b0, o0 + m * 3, none⟩), .pointer (some ⟨b0, o0 + m * 3 + 1, none⟩), .int .u8 (u.tag m), RV (askN (stp u (begS (sby st) st.size) m) (u.tag m)), .bool false, .bool false, RV (askN (stp u (begS (sby st) st.size) m) (u.tag m)), .bool true, .bool false, .bool false] ++ (D d 58 24 ++ ([pt kx1 0, VB (askS (stp u (begS (sby st) st.size) m) (u.tag m)) 32, pt kx2 0, pt kx2 0, pt kx2 0, VB (askS (stp u (begS (sby st) st.size) m) (u.tag m)) 32, .bool false] ++ D d 89 23))))))))) (fun L => [(kx1, BC (askS (stp u (begS (sby st) st.size) m) (u.tag m)) 32), (kx2, BC (askS (stp u (begS (sby st) st.size) m) (u.tag m)) 32), (L15.b 7, RC (askN (stp u (begS (sby st) st.size) m) (u.tag m)))]) hp17 ⟨
        oM, oCT (fun w hs => stateP (hs.base 0 _ _ rfl (by kernel_rfl))), oM, oNC, oF fTr0, oL 1 0 rB32, oW (u := VB (askS (stp u (begS (sby st) st.size) m) (u.tag m)) 32) (v := VB (askS (stp u (begS (sby st) st.size) m) (u.tag m)) 32) (r := .bool false) (fun w => guardA _ _ _ _ _ w) (fun w => neqA _ w),
        trivial⟩ (fun L17 w18 hp18 => ?_)
      refine k26 _ _ ?_
      refine wp_cond_false (by kernel_rfl) ?_
      refine skips ?_
      refine k21 _ _ _ ?_
      refine block_normal ?_
      refine k20 _ _ ?_
      refine gs [.det (.int .i64 ((m : Nat) : Int)), .det (.int .i64 ((m + 1 : Nat) : Int)), .det (.int .i64 ((m + 1 : Nat) : Int))] [0, 1, 2] [0, 1, 3] (fun L => [d 0, .slice p n c] ++ (D d 2 3 ++ ([pt kx1 0, pt kx2 0, .int .i64 ((m + 1 : Nat) : Int), L15.p 7] ++ (D d 9 17 ++ ([.int .i64 ((m : Nat) : Int), .slice p n c, .int .i64 n, .bool true, .int .i64 ((m : Nat) : Int), .int .i64 ((m + 1 : Nat) : Int), .slice p n c, .int .i64 ((m : Nat) : Int), .pointer (some ⟨b0, o0 + m * 3, none⟩), .pointer (some ⟨b0, o0 + m * 3, none⟩), .bool true, pt kx1 0, .slice p n c, .int .i64 ((m : Nat) : Int), .pointer (some ⟨b0, o0 + m * 3, none⟩), .pointer (some ⟨b0, o0 + m * 3 + 1, none⟩), .int .u8 (u.tag m), RV (askN (stp u (begS (sby st) st.size) m) (u.tag m)), RV (askN (stp u (begS (sby st) st.size) m) (u.tag m)), pt kx2 0, .slice p n c, .int .i64 ((m : Nat) : Int), .pointer (some ⟨b0, o0 + m * 3, none⟩), .pointer (some ⟨b0, o0 + m * 3 + 1, none⟩), .int .u8 (u.tag m), RV (askN (stp u (begS (sby st) st.size) m) (u.tag m)), .bool false, .bool false, RV (askN (stp u (begS (sby st) st.size) m) (u.tag m)), .bool true, .bool false, .bool false] ++ (D d 58 24 ++ ([pt kx1 0, VB (askS (stp u (begS (sby st) st.size) m) (u.tag m)) 32, pt kx2 0, pt kx2 0, pt kx2 0, VB (askS (stp u (begS (sby st) st.size) m) (u.tag m)) 32, .bool false] ++ D d 89 23))))))) (fun L => [(kx1, BC (askS (stp u (begS (sby st) st.size) m) (u.tag m)) 32), (kx2, BC (askS (stp u (begS (sby st) st.size) m) (u.tag m)) 32), (L15.b 7, RC (askN (stp u (begS (sby st) st.size) m) (u.tag m)))]) hp18 ⟨
        oM, oJ .i64 .i64 ((m : Nat) : Int) 1 (h := fun w => add1N _ (m) (by omega) w), oA,
        trivial⟩ (fun L18 w19 hp19 => ?_)
      exact ⟨L - 1, by omega, m + 1, (fun zz => ([d 0, .slice p n c] ++ (D d 2 3 ++ ([pt kx1 0, pt kx2 0, .int .i64 ((m + 1 : Nat) : Int), L15.p 7] ++ (D d 9 17 ++ ([.int .i64 ((m : Nat) : Int), .slice p n c, .int .i64 n, .bool true, .int .i64 ((m : Nat) : Int), .int .i64 ((m + 1 : Nat) : Int), .slice p n c, .int .i64 ((m : Nat) : Int), .pointer (some ⟨b0, o0 + m * 3, none⟩), .pointer (some ⟨b0, o0 + m * 3, none⟩), .bool true, pt kx1 0, .slice p n c, .int .i64 ((m : Nat) : Int), .pointer (some ⟨b0, o0 + m * 3, none⟩), .pointer (some ⟨b0, o0 + m * 3 + 1, none⟩), .int .u8 (u.tag m), RV (askN (stp u (begS (sby st) st.size) m) (u.tag m)), RV (askN (stp u (begS (sby st) st.size) m) (u.tag m)), pt kx2 0, .slice p n c, .int .i64 ((m : Nat) : Int), .pointer (some ⟨b0, o0 + m * 3, none⟩), .pointer (some ⟨b0, o0 + m * 3 + 1, none⟩), .int .u8 (u.tag m), RV (askN (stp u (begS (sby st) st.size) m) (u.tag m)), .bool false, .bool false, RV (askN (stp u (begS (sby st) st.size) m) (u.tag m)), .bool true, .bool false, .bool false] ++ (D d 58 24 ++ ([pt kx1 0, VB (askS (stp u (begS (sby st) st.size) m) (u.tag m)) 32, pt kx2 0, pt kx2 0, pt kx2 0, VB (askS (stp u (begS (sby st) st.size) m) (u.tag m)) 32, .bool false] ++ D d 89 23)))))) : List Value).getD zz undef), by kernel_rfl, by omega, by rw [← stp_a hq]; exact Heap.sub hp19 (List.sublist_append_left [_, _] [_])⟩
  obtain rfl : n = m := by omega
  refine wp_seq_k (fun K27 k27 => ?_)
  refine wp_seq_k (fun K28 k28 => ?_)
  refine gs [.det (.int .i64 ((n : Nat) : Int)), .det (.slice p n c), .det (.int .i64 n), .det (.bool false)] [0, 1, 2, 3] [0, 0, 2, 7] (fun L => [d 0, .slice p n c] ++ (D d 2 3 ++ ([pt kx1 0, pt kx2 0, .int .i64 ((n : Nat) : Int)] ++ (D d 8 18 ++ ([.int .i64 ((n : Nat) : Int), .slice p n c, .int .i64 n, .bool false] ++ D d 30 82))))) (fun L => [(kx1, BC (stp u (begS (sby st) st.size) n) 32), (kx2, BC (stp u (begS (sby st) st.size) n) 32)]) hJ ⟨
    oM, oM, fun h => ⟨ob_len (p := p) (n := n) (c := c) (fun _ => rfl) h rfl (fun _ => by kernel_rfl) Try.underlying22⟩, oJ .i64 .i64 ((n : Nat) : Int) n (h := fun w => (lssI _ _ _ w).trans (by rw [decide_eq_false (by omega)])),
    trivial⟩ (fun L19 w20 hp20 => ?_)
  refine k28 _ _ ?_
  refine wp_cond_false (by kernel_rfl) ?_
  refine wp_exit ?_
  refine then_exit ?_
  refine then_exit ?_
  refine k9 _ _ _ ?_
  refine exit_in ?_
  refine k7 _ _ ?_
  refine wp_seq_k (fun K29 k29 => ?_)
  refine gs [.det (.pointer none)] [0] [0] (fun L => [d 0, .slice p n c] ++ (D d 2 3 ++ ([pt kx1 0, pt kx2 0, .int .i64 ((n : Nat) : Int), d 8, .pointer none] ++ (D d 10 16 ++ ([.int .i64 ((n : Nat) : Int), .slice p n c, .int .i64 n, .bool false] ++ D d 30 82))))) (fun L => [(kx1, BC (stp u (begS (sby st) st.size) n) 32), (kx2, BC (stp u (begS (sby st) st.size) n) 32)]) hp20 ⟨
    oA,
    trivial⟩ (fun L20 w21 hp21 => ?_)
  refine k29 _ _ ?_
  refine wp_seq_k (fun K30 k30 => ?_)
  refine gs [.det (.pointer none), .det (.tuple #[])] [0, 1] [0, 1] (fun L => [d 0, .slice p n c] ++ (D d 2 3 ++ ([pt kx1 0, pt kx2 0, .int .i64 ((n : Nat) : Int), d 8, .pointer none] ++ (D d 10 16 ++ ([.int .i64 ((n : Nat) : Int), .slice p n c, .int .i64 n, .bool false] ++ (D d 30 59 ++ ([.pointer none, .tuple #[]] ++ D d 91 21))))))) (fun L => [(kx1, BC (stp u (begS (sby st) st.size) n) 32), (kx2, BC (stp u (begS (sby st) st.size) n) 32)]) hp21 ⟨
    oM, oR (tellN 1 (.slice none 0 0)),
    trivial⟩ (fun L21 w22 hp22 => ?_)
  refine k30 _ _ ?_
  refine wp_seq_k (fun K31 k31 => ?_)
  refine gs [.det (VB (fun _ => 0) 32), .alloc (BC (fun _ => 0) 32), .det (VB (fun _ => 0) 32), .alloc (BC (fun _ => 0) 32), .detB 1 (fun b => .pointer (some ⟨b, 0, none⟩)), .detB 3 (fun b => .pointer (some ⟨b, 0, none⟩))] [0, 1, 2, 3, 4, 5] [0, 1, 0, 4, 3, 31] (fun L => [d 0, .slice p n c] ++ (D d 2 3 ++ ([pt kx1 0, pt kx2 0, .int .i64 ((n : Nat) : Int), d 8, .pointer none, L.p 1, L.p 3] ++ (D d 12 14 ++ ([.int .i64 ((n : Nat) : Int), .slice p n c, .int .i64 n, .bool false] ++ (D d 30 59 ++ ([.pointer none, .tuple #[], VB (fun _ => 0) 32, L.p 1, VB (fun _ => 0) 32, L.p 3] ++ D d 95 17))))))) (fun L => [(kx1, BC (stp u (begS (sby st) st.size) n) 32), (kx2, BC (stp u (begS (sby st) st.size) n) 32), (L.b 1, BC (fun _ => 0) 32), (L.b 3, BC (fun _ => 0) 32)]) hp22 ⟨
    oD buildTk0, oB, oD buildTr0, oB, oAPt, oAPt,
    trivial⟩ (fun L22 w23 hp23 => ?_)
  refine k31 _ _ ?_
  refine wp_seq_k (fun K32 k32 => ?_)
  refine gs [.det (.pointer none), .det (RV 0), .det (RV 0), .det (.bool true), .det (.bool true), .det (.pointer none), .det (VB (fun _ => 0) 32), .det (VB (fun _ => 0) 32), .det (.bool true), .det (.bool true), .det (.bool true), .det (L22.p 1), .turn 2 (RV (askN (fun _ => 0) 3)) (BC (askS (fun _ => 0) 3) 32), .det (L22.p 3), .turn 3 (RV (askN (fun _ => 0) 3)) (BC (askS (fun _ => 0) 3) 32), .det (.bool true), .det (.bool true), .det (.bool true)] [0, 1, 2, 3, 4, 5, 6, 7, 8, 9, 10, 11, 12, 13, 14, 15, 16, 17] [0, 1, 0, 7, 15, 31, 63, 31, 255, 511, 1023, 2047, 4095, 2047, 16383, 32767, 65535, 131071] (fun L => [d 0, .slice p n c] ++ (D d 2 2 ++ ([.bool true, pt kx1 0, pt kx2 0, .int .i64 ((n : Nat) : Int), d 8, .pointer none, L22.p 1, L22.p 3] ++ (D d 12 14 ++ ([.int .i64 ((n : Nat) : Int), .slice p n c, .int .i64 n, .bool false] ++ (D d 30 59 ++ [.pointer none, .tuple #[], VB (fun _ => 0) 32, L22.p 1, VB (fun _ => 0) 32, L22.p 3, .pointer none, RV 0, RV 0, .bool true, .bool true, .pointer none, VB (fun _ => 0) 32, VB (fun _ => 0) 32, .bool true, .bool true, .bool true, L22.p 1, RV (askN (fun _ => 0) 3), L22.p 3, RV (askN (fun _ => 0) 3), .bool true, .bool true])))))) (fun L => [(kx1, BC (stp u (begS (sby st) st.size) n) 32), (kx2, BC (stp u (begS (sby st) st.size) n) 32), (L22.b 1, BC (askS (fun _ => 0) 3) 32), (L22.b 3, BC (askS (fun _ => 0) 3) 32)]) hp23 ⟨
    oM, oR (askNil 1), oD buildRn, oW (u := RV 0) (v := RV 0) (r := .bool true) (fun w => guardR _ _ _ _ _ w) (fun w => eqlRs _ w), oM, oM, oR stateN, oD buildB32n,
    oW (u := VB (fun _ => 0) 32) (v := VB (fun _ => 0) 32) (r := .bool true) (fun w => guardA _ _ _ _ _ w) (fun w => eqlA _ w), oP, oM, oM, oTu (fun w hb hx => askP (L22.b 1) (fun _ => 0) 3 w hx By.zero (by decide)),
    oM, oTu (fun w hb hx => raskP (L22.b 3) (fun _ => 0) 3 w hx By.zero (by decide)), oW (u := RV (askN (fun _ => 0) 3)) (v := RV (askN (fun _ => 0) 3)) (r := .bool true) (fun w => guardR _ _ _ _ _ w) (fun w => eqlRs _ w),
    oP, oA,
    trivial⟩ (fun L23 w24 hp24 => ?_)
  refine k32 _ _ ?_
  refine wp_ret ?_
  refine bodyPost_ret (v := .bool true) ?_ rfl ?_
  · exact res_t rfl (by kernel_rfl) _
  · exact ⟨rfl, hp24.bel⟩
theorem talkAll_walk (st : ByteArray) (u : Tur) (p : Option Addr) (n c : Nat) (w : World) (hT : TuAt w p n u) : Calls Try.prog 3 #[.string st, .slice p n c] w (Ret (.bool true) w) := by
  by_cases hs : st.size ≤ 100
  · rcases light_or u n with ⟨hn, hl⟩ | hn | ⟨hn, j0, hj, hl, hg⟩
    · exact talkAll2 st u p n c w hs hT hn hl
    · exact talkAll1 st p n c w hs fun x _ => lightF p n c x hn
    · exact talkAll1 st p n c w hs fun x hb => lightG u p n c j0 x (hT.up hb) hn hj hl hg
  · exact talkAll0 st p n c w (by omega)
end Go.Proofs.Ytccidmogamnihaa.fpn

/- Law 13: TalkSame. -/
namespace Go.Proofs.Ytccidmogamnihaa.fpn
open Go.RowKit Pl
set_option linter.unusedVariables false
set_option linter.unusedSimpArgs false
set_option maxRecDepth 4000

def flpR (g : Nat → Int) : Nat → Nat → Int
  | 0 => g
  | m + 1 => su (flpR g m) m (bits .xor .u8 (flpR g m m) 1)
@[irreducible] def flp (g : Nat → Int) (m : Nat) : Nat → Int := flpR g m
theorem flp_0 (g : Nat → Int) : flp g 0 = g := by unfold flp; rfl
theorem flp_s (g : Nat → Int) (m : Nat) : flp g (m + 1) = su (flp g m) m (bits .xor .u8 (flp g m m) 1) := by unfold flp; rfl
theorem xorY (t : TypeId) (a : Int) (w : World) : (binOp .xor t (.int .u8 a) (.int .u8 1)).run Try.prog w = .ok (.int .u8 (bits .xor .u8 a 1)) w := by
  simp [binOp, Sem.run_bind, Op.intBits]
  rfl
theorem wp_moveH {Q : Exit → Act → World → Prop} {o : Oper} {x : Operand} {v : Value} {a : Act} {w : World} {K : Act → World → Prop} (ho : o.op = .move x) (hx : a.eval x = v) (h : K (a.put o.dst v) w) : o.wp Try.prog a w K Q := by
  unfold Oper.wp execOp
  simp only [ho, hx]
  exact h
theorem talkSame0 (st : ByteArray) (p : Option Addr) (n c : Nat) (q : Option Addr) (nb cb : Nat) (w : World) (hs : 100 < st.size) : Calls Try.prog 4 #[.string st, .slice p n c, .slice q nb cb] w (Ret (.bool true) w) := by
  have hp0 := Heap.start w
  go_enter Try.func4, Try.ntmps4
  refine wp_seq_k (fun K1 k1 => ?_)
  refine gs [.det (.bool false)] [0] [0] (fun L => [.string st, .slice p n c, .slice q nb cb, undef, undef, undef, .bool false] ++ U 114) (fun L => []) hp0 ⟨
    oA,
    trivial⟩ (fun L0 w1 hp1 => ?_)
  refine k1 _ _ ?_
  refine wp_seq_k (fun K2 k2 => ?_)
  refine wp_seq_k (fun K3 k3 => ?_)
  refine gs [.det (.bool true), .det (.bool false)] [0, 1] [0, 1] (fun L => [.string st, .slice p n c, .slice q nb cb, undef, undef, undef, .bool false] ++ (U 5 ++ ([.bool true, .bool false] ++ U 107))) (fun L => []) hp1 ⟨
    oR begun13, oN,
    trivial⟩ (fun L1 w2 hp2 => ?_)
  refine k3 _ _ ?_
  refine wp_cond_false (by kernel_rfl) ?_
  refine skips ?_
  refine k2 _ _ ?_
  refine wp_seq_k (fun K4 k4 => ?_)
  refine wp_seq_k (fun K5 k5 => ?_)
  refine gs [.det (.string st), .det (.int .i64 ((st.size : Nat) : Int)), .det (.bool true), .det (.bool true), .det undef, .det undef, .det undef, .det (.bool true), .det (.bool true), .det undef, .det undef, .det undef, .det (.bool true)] [0, 1, 2, 3, 4, 5, 6, 7, 8, 9, 10, 11, 12] [0, 1, 3, 7, 15, 31, 63, 127, 255, 511, 1023, 2047, 4095] (fun L => [.string st, .slice p n c, .slice q nb cb, undef, undef, undef, .bool false] ++ (U 5 ++ ([.bool true, .bool false, .string st, .int .i64 ((st.size : Nat) : Int), .bool true, .bool true, undef, undef, undef, .bool true, .bool true, undef, undef, undef, .bool true] ++ U 94))) (fun L => []) hp2 ⟨
    oM, oLS (st := st) (n := st.size) rfl, oJ .i64 .i64 ((st.size : Nat) : Int) 100 (h := fun w => (gtrI _ _ _ w).trans (by rw [decide_eq_true (by omega)])), oM,
    oS, oS, oS, oP, oM, oS, oS, oS, oP,
    trivial⟩ (fun L2 w3 hp3 => ?_)
  refine k5 _ _ ?_
  refine wp_cond_true (by kernel_rfl) ?_
  refine wp_seq_k (fun K6 k6 => ?_)
  refine gs [.det (.bool true)] [0] [0] (fun L => [.string st, .slice p n c, .slice q nb cb, undef, undef, undef, .bool true] ++ (U 5 ++ ([.bool true, .bool false, .string st, .int .i64 ((st.size : Nat) : Int), .bool true, .bool true, undef, undef, undef, .bool true, .bool true, undef, undef, undef, .bool true] ++ U 94))) (fun L => []) hp3 ⟨
    oA,
    trivial⟩ (fun L3 w4 hp4 => ?_)
  refine k6 _ _ ?_
  refine wp_ret ?_
  refine bodyPost_ret (v := .bool true) ?_ rfl ?_
  · exact res_t rfl (by kernel_rfl) _
  · exact ⟨rfl, hp4.bel⟩
theorem talkSame1 (st : ByteArray) (p : Option Addr) (n c : Nat) (q : Option Addr) (nb cb : Nat) (w : World) (hs : st.size ≤ 100) (hL : ∀ x, Below w.heap.size w x → Calls Try.prog 6 #[.slice p n c] x (Ret (.bool false) x)) : Calls Try.prog 4 #[.string st, .slice p n c, .slice q nb cb] w (Ret (.bool true) w) := by
  have hp0 := Heap.start w
  go_enter Try.func4, Try.ntmps4
  refine wp_seq_k (fun K1 k1 => ?_)
  refine gs [.det (.bool false)] [0] [0] (fun L => [.string st, .slice p n c, .slice q nb cb, undef, undef, undef, .bool false] ++ U 114) (fun L => []) hp0 ⟨
    oA,
    trivial⟩ (fun L0 w1 hp1 => ?_)
  refine k1 _ _ ?_
  refine wp_seq_k (fun K2 k2 => ?_)
  refine wp_seq_k (fun K3 k3 => ?_)
  refine gs [.det (.bool true), .det (.bool false)] [0, 1] [0, 1] (fun L => [.string st, .slice p n c, .slice q nb cb, undef, undef, undef, .bool false] ++ (U 5 ++ ([.bool true, .bool false] ++ U 107))) (fun L => []) hp1 ⟨
    oR begun13, oN,
    trivial⟩ (fun L1 w2 hp2 => ?_)
  refine k3 _ _ ?_
  refine wp_cond_false (by kernel_rfl) ?_
  refine skips ?_
  refine k2 _ _ ?_
  refine wp_seq_k (fun K4 k4 => ?_)
  refine wp_seq_k (fun K5 k5 => ?_)
  refine gs [.det (.string st), .det (.int .i64 ((st.size : Nat) : Int)), .det (.bool false), .det (.bool false), .det (.slice p n c), .det (.bool false), .det (.bool true), .det (.bool true), .det (.bool true), .det undef, .det undef, .det undef, .det (.bool true)] [0, 1, 2, 3, 4, 5, 6, 7, 8, 9, 10, 11, 12] [0, 1, 3, 7, 15, 31, 63, 127, 255, 511, 1023, 2047, 4095] (fun L => [.string st, .slice p n c, .slice q nb cb, undef, undef, undef, .bool false] ++ (U 5 ++ ([.bool true, .bool false, .string st, .int .i64 ((st.size : Nat) : Int), .bool false, .bool false, .slice p n c, .bool false, .bool true, .bool true, .bool true, undef, undef, undef, .bool true] ++ U 94))) (fun L => []) hp2 ⟨
    oM, oLS (st := st) (n := st.size) rfl, oJ .i64 .i64 ((st.size : Nat) : Int) 100 (h := fun w => (gtrI _ _ _ w).trans (by rw [decide_eq_false (by omega)])), oM,
    oM, oH (v := .bool false) (vs := #[.slice p n c]) (fun w hb _ => hL w hb), oN, oP, oM, oS, oS, oS, oP,
    trivial⟩ (fun L2 w3 hp3 => ?_)
  refine k5 _ _ ?_
  refine wp_cond_true (by kernel_rfl) ?_
  refine wp_seq_k (fun K6 k6 => ?_)
  refine gs [.det (.bool true)] [0] [0] (fun L => [.string st, .slice p n c, .slice q nb cb, undef, undef, undef, .bool true] ++ (U 5 ++ ([.bool true, .bool false, .string st, .int .i64 ((st.size : Nat) : Int), .bool false, .bool false, .slice p n c, .bool false, .bool true, .bool true, .bool true, undef, undef, undef, .bool true] ++ U 94))) (fun L => []) hp3 ⟨
    oA,
    trivial⟩ (fun L3 w4 hp4 => ?_)
  refine k6 _ _ ?_
  refine wp_ret ?_
  refine bodyPost_ret (v := .bool true) ?_ rfl ?_
  · exact res_t rfl (by kernel_rfl) _
  · exact ⟨rfl, hp4.bel⟩
theorem talkSame2 (st : ByteArray) (u : Tur) (p : Option Addr) (n c : Nat) (q : Option Addr) (nb cb : Nat) (w : World) (hs : st.size ≤ 100) (hT : TuAt w p n u) (hn : n ≤ 12) (hl : ∀ i, i < n → u.bn i ≤ 200) (hnb : 200 < nb) : Calls Try.prog 4 #[.string st, .slice p n c, .slice q nb cb] w (Ret (.bool true) w) := by
  have hp0 := Heap.start w
  go_enter Try.func4, Try.ntmps4
  refine wp_seq_k (fun K1 k1 => ?_)
  refine gs [.det (.bool false)] [0] [0] (fun L => [.string st, .slice p n c, .slice q nb cb, undef, undef, undef, .bool false] ++ U 114) (fun L => []) hp0 ⟨
    oA,
    trivial⟩ (fun L0 w1 hp1 => ?_)
  refine k1 _ _ ?_
  refine wp_seq_k (fun K2 k2 => ?_)
  refine wp_seq_k (fun K3 k3 => ?_)
  refine gs [.det (.bool true), .det (.bool false)] [0, 1] [0, 1] (fun L => [.string st, .slice p n c, .slice q nb cb, undef, undef, undef, .bool false] ++ (U 5 ++ ([.bool true, .bool false] ++ U 107))) (fun L => []) hp1 ⟨
    oR begun13, oN,
    trivial⟩ (fun L1 w2 hp2 => ?_)
  refine k3 _ _ ?_
  refine wp_cond_false (by kernel_rfl) ?_
  refine skips ?_
  refine k2 _ _ ?_
  refine wp_seq_k (fun K4 k4 => ?_)
  refine wp_seq_k (fun K5 k5 => ?_)
  refine gs [.det (.string st), .det (.int .i64 ((st.size : Nat) : Int)), .det (.bool false), .det (.bool false), .det (.slice p n c), .det (.bool true), .det (.bool false), .det (.bool false), .det (.bool false), .det (.slice q nb cb), .det (.int .i64 nb), .det (.bool true), .det (.bool true)] [0, 1, 2, 3, 4, 5, 6, 7, 8, 9, 10, 11, 12] [0, 1, 3, 7, 15, 31, 63, 127, 255, 511, 1023, 2047, 4095] (fun L => [.string st, .slice p n c, .slice q nb cb, undef, undef, undef, .bool false] ++ (U 5 ++ ([.bool true, .bool false, .string st, .int .i64 ((st.size : Nat) : Int), .bool false, .bool false, .slice p n c, .bool true, .bool false, .bool false, .bool false, .slice q nb cb, .int .i64 nb, .bool true, .bool true] ++ U 94))) (fun L => []) hp2 ⟨
    oM, oLS (st := st) (n := st.size) rfl, oJ .i64 .i64 ((st.size : Nat) : Int) 100 (h := fun w => (gtrI _ _ _ w).trans (by rw [decide_eq_false (by omega)])), oM,
    oM, oH (v := .bool true) (vs := #[.slice p n c]) (fun w hb _ => lightT u p n c w (hT.up hb) hn hl), oN, oP, oM, oM, fun h => ⟨ob_len (p := q) (n := nb) (c := cb) (fun _ => by kernel_rfl) h rfl (fun _ => by kernel_rfl) Try.underlying29⟩,
    oJ .i64 .i64 nb 200 (h := fun w => (gtrI _ _ _ w).trans (by rw [decide_eq_true (by omega)])), oP,
    trivial⟩ (fun L2 w3 hp3 => ?_)
  refine k5 _ _ ?_
  refine wp_cond_true (by kernel_rfl) ?_
  refine wp_seq_k (fun K6 k6 => ?_)
  refine gs [.det (.bool true)] [0] [0] (fun L => [.string st, .slice p n c, .slice q nb cb, undef, undef, undef, .bool true] ++ (U 5 ++ ([.bool true, .bool false, .string st, .int .i64 ((st.size : Nat) : Int), .bool false, .bool false, .slice p n c, .bool true, .bool false, .bool false, .bool false, .slice q nb cb, .int .i64 nb, .bool true, .bool true] ++ U 94))) (fun L => []) hp3 ⟨
    oA,
    trivial⟩ (fun L3 w4 hp4 => ?_)
  refine k6 _ _ ?_
  refine wp_ret ?_
  refine bodyPost_ret (v := .bool true) ?_ rfl ?_
  · exact res_t rfl (by kernel_rfl) _
  · exact ⟨rfl, hp4.bel⟩
def tsI (st : ByteArray) (u : Tur) (p : Option Addr) (n c : Nat) (q : Option Addr) (nb cb : Nat) (w : World) (q0 q1 : Nat) : Nat → Act → World → Prop := fun L a' w' => ∃ (m : Nat) (d : Nat → Value),
  a' = { tmps := ([d 0, .slice p n c, .slice q nb cb] ++ (D d 3 4 ++ ([.pointer (some ⟨q0, 0, none⟩), .pointer (some ⟨q1, 0, none⟩), .int .i64 ((m : Nat) : Int)] ++ D d 10 111)) : List Value).toArray, defers := [] } ∧ m + L = n ∧ Heap w.heap.size w w' [(q0, BC (stp u (begS (sby st) st.size) m) 32), (q1, BC (stp u (begS (sby st) st.size) m) 32)]

def tsJ (st : ByteArray) (u : Tur) (n : Nat) (g : Nat → Int) (nb ccu : Nat) (w : World) (q0 q1 q2 : Nat) : Nat → Act → World → Prop := fun L a' w' => ∃ (m : Nat) (d : Nat → Value),
  a' = { tmps := (D d 0 7 ++ ([.pointer (some ⟨q0, 0, none⟩), .pointer (some ⟨q1, 0, none⟩), d 9, .slice (some ⟨q2, 0, none⟩) nb ccu, .int .i64 ((m : Nat) : Int)] ++ D d 12 109) : List Value).toArray, defers := [] } ∧ m + L = nb ∧ Heap w.heap.size w w' [(q0, BC (tellS (stp u (begS (sby st) st.size) n) 1 g nb) 32), (q1, BC (tellS (stp u (begS (sby st) st.size) n) 1 g nb) 32), (q2, BC (flp g m) nb)]

set_option maxHeartbeats 8000000 in
theorem talkSame3 (st : ByteArray) (u : Tur) (p : Option Addr) (n c : Nat) (q : Option Addr) (nb cb : Nat) (g : Nat → Int) (w : World) (hs : st.size ≤ 100) (hT : TuAt w p n u) (hn : n ≤ 12) (hl : ∀ i, i < n → u.bn i ≤ 200) (hnb : nb ≤ 200) (hnc : nb ≤ cb) (hq : AtK .u8 w q nb g) (hg : ∀ j, j < nb → 0 ≤ g j ∧ g j < 256) : Calls Try.prog 4 #[.string st, .slice p n c, .slice q nb cb] w (Ret (.bool true) w) := by
  have hp0 := Heap.start w
  go_enter Try.func4, Try.ntmps4
  refine wp_seq_k (fun K1 k1 => ?_)
  refine gs [.det (.bool false)] [0] [0] (fun L => [.string st, .slice p n c, .slice q nb cb, undef, undef, undef, .bool false] ++ U 114) (fun L => []) hp0 ⟨
    oA,
    trivial⟩ (fun L0 w1 hp1 => ?_)
  refine k1 _ _ ?_
  refine wp_seq_k (fun K2 k2 => ?_)
  refine wp_seq_k (fun K3 k3 => ?_)
  refine gs [.det (.bool true), .det (.bool false)] [0, 1] [0, 1] (fun L => [.string st, .slice p n c, .slice q nb cb, undef, undef, undef, .bool false] ++ (U 5 ++ ([.bool true, .bool false] ++ U 107))) (fun L => []) hp1 ⟨
    oR begun13, oN,
    trivial⟩ (fun L1 w2 hp2 => ?_)
  refine k3 _ _ ?_
  refine wp_cond_false (by kernel_rfl) ?_
  refine skips ?_
  refine k2 _ _ ?_
  refine wp_seq_k (fun K4 k4 => ?_)
  refine wp_seq_k (fun K5 k5 => ?_)
  refine gs [.det (.string st), .det (.int .i64 ((st.size : Nat) : Int)), .det (.bool false), .det (.bool false), .det (.slice p n c), .det (.bool true), .det (.bool false), .det (.bool false), .det (.bool false), .det (.slice q nb cb), .det (.int .i64 nb), .det (.bool false), .det (.bool false)] [0, 1, 2, 3, 4, 5, 6, 7, 8, 9, 10, 11, 12] [0, 1, 3, 7, 15, 31, 63, 127, 255, 511, 1023, 2047, 4095] (fun L => [.string st, .slice p n c, .slice q nb cb, undef, undef, undef, .bool false] ++ (U 5 ++ ([.bool true, .bool false, .string st, .int .i64 ((st.size : Nat) : Int), .bool false, .bool false, .slice p n c, .bool true, .bool false, .bool false, .bool false, .slice q nb cb, .int .i64 nb, .bool false, .bool false] ++ U 94))) (fun L => []) hp2 ⟨
    oM, oLS (st := st) (n := st.size) rfl, oJ .i64 .i64 ((st.size : Nat) : Int) 100 (h := fun w => (gtrI _ _ _ w).trans (by rw [decide_eq_false (by omega)])), oM,
    oM, oH (v := .bool true) (vs := #[.slice p n c]) (fun w hb _ => lightT u p n c w (hT.up hb) hn hl), oN, oP, oM, oM, fun h => ⟨ob_len (p := q) (n := nb) (c := cb) (fun _ => by kernel_rfl) h rfl (fun _ => by kernel_rfl) Try.underlying29⟩,
    oJ .i64 .i64 nb 200 (h := fun w => (gtrI _ _ _ w).trans (by rw [decide_eq_false (by omega)])), oP,
    trivial⟩ (fun L2 w3 hp3 => ?_)
  refine k5 _ _ ?_
  refine wp_cond_false (by kernel_rfl) ?_
  refine skips ?_
  refine k4 _ _ ?_
  refine wp_seq_k (fun K6 k6 => ?_)
  refine wp_region_list ?_
  refine gsC 1 [.det (.string st)] [0] [0] (fun L _ => [.string st, .slice p n c, .slice q nb cb, undef, undef, undef, .bool false, undef, undef, undef, undef, undef, .bool true, .bool false, .string st, .int .i64 ((st.size : Nat) : Int), .bool false, .bool false, .slice p n c, .bool true, .bool false, .bool false, .bool false, .slice q nb cb, .int .i64 nb, .bool false, .bool false, .string st] ++ U 93) (fun L => []) hp3 ⟨
    oM,
    trivial⟩ (fun L3 _ w4 hp4 ha4 => ?_)
  refine oneL rfl rfl (wp_callG (vs := #[.string st]) (R := fun v x => ∃ k, v = .pointer (some ⟨k, 0, none⟩) ∧ w4.heap.size ≤ k ∧ Box x k (BC (begS (sby st) st.size) 32) ∧ Below w4.heap.size w4 x) (Calls.mono (tkNew st _ hs) (fun e x ⟨k, h1, h2, h3, h4⟩ => ⟨_, h1, k, rfl, h2, h3, h4⟩)) (fun vx1 x1 ⟨kx1, hvx1, h2x1, h3x1, h4x1⟩ => ?_))
  subst hvx1
  have hpx1 := Heap.add (Heap.later hp4 h4x1) (Nat.le_trans hp4.le h2x1) (fun b hb => Nat.lt_of_lt_of_le (Heap.lts hp4 b hb) h2x1) h3x1
  refine gsC 1 [.det (.string st)] [0] [0] (fun L _ => [.string st, .slice p n c, .slice q nb cb, undef, undef, undef, .bool false, undef, undef, undef, undef, undef, .bool true, .bool false, .string st, .int .i64 ((st.size : Nat) : Int), .bool false, .bool false, .slice p n c, .bool true, .bool false, .bool false, .bool false, .slice q nb cb, .int .i64 nb, .bool false, .bool false, .string st, pt kx1 0, .string st] ++ U 91) (fun L => [(kx1, BC (begS (sby st) st.size) 32)]) hpx1 ⟨
    oM,
    trivial⟩ (fun L4 _ w5 hp5 ha5 => ?_)
  refine oneL rfl rfl (wp_callG (vs := #[.string st]) (R := fun v x => ∃ k, v = .pointer (some ⟨k, 0, none⟩) ∧ w5.heap.size ≤ k ∧ Box x k (BC (begS (sby st) st.size) 32) ∧ Below w5.heap.size w5 x) (Calls.mono (tkNew st _ hs) (fun e x ⟨k, h1, h2, h3, h4⟩ => ⟨_, h1, k, rfl, h2, h3, h4⟩)) (fun vx2 x2 ⟨kx2, hvx2, h2x2, h3x2, h4x2⟩ => ?_))
  subst hvx2
  have hpx2 := Heap.add (Heap.later hp5 h4x2) (Nat.le_trans hp5.le h2x2) (fun b hb => Nat.lt_of_lt_of_le (Heap.lts hp5 b hb) h2x2) h3x2
  refine gsC 2 [.det (pt kx1 0), .det (pt kx2 0)] [0, 1] [0, 1] (fun L _ => [.string st, .slice p n c, .slice q nb cb, undef, undef, undef, .bool false, pt kx1 0, pt kx2 0, undef, undef, undef, .bool true, .bool false, .string st, .int .i64 ((st.size : Nat) : Int), .bool false, .bool false, .slice p n c, .bool true, .bool false, .bool false, .bool false, .slice q nb cb, .int .i64 nb, .bool false, .bool false, .string st, pt kx1 0, .string st, pt kx2 0] ++ U 90) (fun L => [(kx1, BC (begS (sby st) st.size) 32), (kx2, BC (begS (sby st) st.size) 32)]) hpx2 ⟨
    oA, oA,
    trivial⟩ (fun L5 _ w6 hp6 ha6 => ?_)
  refine wpList_nil ?_
  refine k6 _ _ ?_
  refine wp_seq_k (fun K7 k7 => ?_)
  refine wp_seq_k (fun K8 k8 => ?_)
  refine gs [.det (.int .i64 0)] [0] [0] (fun L => [.string st, .slice p n c, .slice q nb cb, undef, undef, undef, .bool false, pt kx1 0, pt kx2 0, .int .i64 0, undef, undef, .bool true, .bool false, .string st, .int .i64 ((st.size : Nat) : Int), .bool false, .bool false, .slice p n c, .bool true, .bool false, .bool false, .bool false, .slice q nb cb, .int .i64 nb, .bool false, .bool false, .string st, pt kx1 0, .string st, pt kx2 0] ++ U 90) (fun L => [(kx1, BC (begS (sby st) st.size) 32), (kx2, BC (begS (sby st) st.size) 32)]) hp6 ⟨
    oA,
    trivial⟩ (fun L6 w7 hp7 => ?_)
  refine k8 _ _ ?_
  refine wp_block_k (fun K9 k9 => ?_)
  refine wp_loop_ghost (tsI st u p n c q nb cb w kx1 kx2) n ⟨0, (fun zz => ([.string st, .slice p n c, .slice q nb cb, undef, undef, undef, .bool false, pt kx1 0, pt kx2 0, .int .i64 0, undef, undef, .bool true, .bool false, .string st, .int .i64 ((st.size : Nat) : Int), .bool false, .bool false, .slice p n c, .bool true, .bool false, .bool false, .bool false, .slice q nb cb, .int .i64 nb, .bool false, .bool false, .string st, pt kx1 0, .string st, pt kx2 0] ++ U 90 : List Value).getD zz undef), by kernel_rfl, Nat.zero_add _, by rw [stp_0]; exact hp7⟩ ?_
  rintro L a' W ⟨m, d, rfl, hL, hJ⟩
  by_cases hL0 : L = 0
  rotate_left
  · skip
    have hm : m < n := by omega
    obtain ⟨b0, o0, ep, hc0, hc1, hc2⟩ := hT.at_ m hm
    have hlm := hl m hm
    have htg := hT.tag m hm
    have hBy := By.stp (u := u) (By.begS (sby st) st.size) m
    cases hq : u.ask m
    · skip
      rw [hq] at hc0
      refine wp_seq_k (fun K10 k10 => ?_)
      refine wp_seq_k (fun K11 k11 => ?_)
      refine gs [.det (.int .i64 ((m : Nat) : Int)), .det (.slice p n c), .det (.int .i64 n), .det (.bool true)] [0, 1, 2, 3] [0, 0, 2, 7] (fun L => [d 0, .slice p n c, .slice q nb cb] ++ (D d 3 4 ++ ([pt kx1 0, pt kx2 0, .int .i64 ((m : Nat) : Int)] ++ (D d 10 21 ++ ([.int .i64 ((m : Nat) : Int), .slice p n c, .int .i64 n, .bool true] ++ D d 35 86))))) (fun L => [(kx1, BC (stp u (begS (sby st) st.size) m) 32), (kx2, BC (stp u (begS (sby st) st.size) m) 32)]) hJ ⟨
        oM, oM, fun h => ⟨ob_len (p := p) (n := n) (c := c) (fun _ => rfl) h rfl (fun _ => by kernel_rfl) Try.underlying22⟩, oJ .i64 .i64 ((m : Nat) : Int) n (h := fun w => (lssI _ _ _ w).trans (by rw [decide_eq_true (by omega)])),
        trivial⟩ (fun L7 w8 hp8 => ?_)
      refine k11 _ _ ?_
      refine wp_cond_true (by kernel_rfl) ?_
      refine skips ?_
      refine k10 _ _ ?_
      refine wp_seq_k (fun K12 k12 => ?_)
      refine wp_block_k (fun K13 k13 => ?_)
      refine wp_seq_k (fun K14 k14 => ?_)
      refine gs [.det (.slice p n c), .det (.int .i64 ((m : Nat) : Int)), .det (.pointer (some ⟨b0, o0 + m * 3, none⟩)), .det (.pointer (some ⟨b0, o0 + m * 3, none⟩)), .det (.bool false)] [0, 1, 2, 3, 4] [0, 0, 3, 7, 15] (fun L => [d 0, .slice p n c, .slice q nb cb] ++ (D d 3 4 ++ ([pt kx1 0, pt kx2 0, .int .i64 ((m : Nat) : Int)] ++ (D d 10 21 ++ ([.int .i64 ((m : Nat) : Int), .slice p n c, .int .i64 n, .bool true] ++ (D d 35 2 ++ ([.slice p n c, .int .i64 ((m : Nat) : Int), .pointer (some ⟨b0, o0 + m * 3, none⟩), .pointer (some ⟨b0, o0 + m * 3, none⟩), .bool false] ++ D d 42 79))))))) (fun L => [(kx1, BC (stp u (begS (sby st) st.size) m) 32), (kx2, BC (stp u (begS (sby st) st.size) m) 32)]) hp8 ⟨
        oM, oM, oIP (n := n) (c := c) (sz := 3) m ep Try.underlying22 sizeTu hm, oF fTu0, oLT oneB (fun w hs => cell_up hc0 hs.bel),
        trivial⟩ (fun L8 w9 hp9 => ?_)
      refine k14 _ _ ?_
      refine wp_cond_false (by kernel_rfl) ?_
      refine wp_seq_k (fun K15 k15 => ?_)
      refine dT 11 [.det (pt kx1 0), .det (.slice p n c), .det (.int .i64 ((m : Nat) : Int)), .det (.pointer (some ⟨b0, o0 + m * 3, none⟩)), .det (.pointer (some ⟨b0, o0 + m * 3 + 1, none⟩)), .det (.int .u8 (u.tag m)), .det (.slice p n c), .det (.int .i64 ((m : Nat) : Int)), .det (.pointer (some ⟨b0, o0 + m * 3, none⟩)), .det (.pointer (some ⟨b0, o0 + m * 3 + 2, none⟩)), .det (.slice (u.bp m) (u.bn m) (u.bc m)), .det (.tuple #[])] [0, 1, 2, 3, 4, 5, 6, 7, 8, 9, 10] [0, 0, 0, 6, 14, 30, 0, 0, 192, 448, 960, 2047] (fun L => [d 0, .slice p n c, .slice q nb cb] ++ (D d 3 4 ++ ([pt kx1 0, pt kx2 0, .int .i64 ((m : Nat) : Int)] ++ (D d 10 21 ++ ([.int .i64 ((m : Nat) : Int), .slice p n c, .int .i64 n, .bool true] ++ (D d 35 2 ++ ([.slice p n c, .int .i64 ((m : Nat) : Int), .pointer (some ⟨b0, o0 + m * 3, none⟩), .pointer (some ⟨b0, o0 + m * 3, none⟩), .bool false] ++ (D d 42 15 ++ ([pt kx1 0, .slice p n c, .int .i64 ((m : Nat) : Int), .pointer (some ⟨b0, o0 + m * 3, none⟩), .pointer (some ⟨b0, o0 + m * 3 + 1, none⟩), .int .u8 (u.tag m), .slice p n c, .int .i64 ((m : Nat) : Int), .pointer (some ⟨b0, o0 + m * 3, none⟩), .pointer (some ⟨b0, o0 + m * 3 + 2, none⟩), .slice (u.bp m) (u.bn m) (u.bc m)] ++ D d 68 53))))))))) hp9 ⟨
        oM, oM, oM, oIP (n := n) (c := c) (sz := 3) m ep Try.underlying22 sizeTu hm, oF fTu1, oLT oneY (fun w hs => cell_up hc1 hs.bel), oM, oM, oIP (n := n) (c := c) (sz := 3) m ep Try.underlying22 sizeTu hm, oF fTu2, oLT oneYS (fun w hs => cell_up hc2 hs.bel), trivial⟩ (fun L9 w10t hp10t ha10t => ?_)
      refine tail1 (by kernel_rfl) (wpOp_of rfl rfl (wp_callG (vs := #[pt kx1 0, .int .u8 (u.tag m), .slice (u.bp m) (u.bn m) (u.bc m)]) (R := fun v x => v = .tuple #[] ∧ Chg kx1 w10t x ∧ Box x kx1 (BC (tellS (stp u (begS (sby st) st.size) m) (u.tag m) (u.bf m) (u.bn m)) 32)) (Calls.mono (tellP kx1 (stp u (begS (sby st) st.size) m) (u.tag m) (u.bf m) (u.bp m) (u.bn m) (u.bc m) _ (hp10t.bound 0 rfl).2 hBy htg ((hT.byt m hm).below hp10t.bel) (hT.cap m hm) (hT.rg m hm) hlm) (fun e x ⟨h1, h2, h3⟩ => ⟨_, h1, rfl, h2, h3⟩)) (fun vx3 x3 ⟨hvx3, h2x3, h3x3⟩ => ?_)))
      subst hvx3
      have hpx3 := Heap.chg (H1 := []) (H2 := [_]) hp10t h2x3 h3x3
      refine k15 _ _ ?_
      refine dT 13 [.det (pt kx2 0), .det (.slice p n c), .det (.int .i64 ((m : Nat) : Int)), .det (.pointer (some ⟨b0, o0 + m * 3, none⟩)), .det (.pointer (some ⟨b0, o0 + m * 3 + 1, none⟩)), .det (.int .u8 (u.tag m)), .any isE, .det (.slice p n c), .det (.int .i64 ((m : Nat) : Int)), .det (.pointer (some ⟨b0, o0 + m * 3, none⟩)), .det (.pointer (some ⟨b0, o0 + m * 3 + 2, none⟩)), .det (.slice (u.bp m) (u.bn m) (u.bc m)), .any (isA (u.bf m) (u.bn m)), .det (.tuple #[])] [0, 1, 2, 3, 4, 5, 6, 7, 8, 9, 10, 11, 12] [0, 0, 0, 6, 14, 30, 0, 0, 0, 384, 896, 1920, 4032, 8191] (fun L => [d 0, .slice p n c, .slice q nb cb] ++ (D d 3 4 ++ ([pt kx1 0, pt kx2 0, .int .i64 ((m : Nat) : Int)] ++ (D d 10 21 ++ ([.int .i64 ((m : Nat) : Int), .slice p n c, .int .i64 n, .bool true] ++ (D d 35 2 ++ ([.slice p n c, .int .i64 ((m : Nat) : Int), .pointer (some ⟨b0, o0 + m * 3, none⟩), .pointer (some ⟨b0, o0 + m * 3, none⟩), .bool false] ++ (D d 42 15 ++ ([pt kx1 0, .slice p n c, .int .i64 ((m : Nat) : Int), .pointer (some ⟨b0, o0 + m * 3, none⟩), .pointer (some ⟨b0, o0 + m * 3 + 1, none⟩), .int .u8 (u.tag m), .slice p n c, .int .i64 ((m : Nat) : Int), .pointer (some ⟨b0, o0 + m * 3, none⟩), .pointer (some ⟨b0, o0 + m * 3 + 2, none⟩), .slice (u.bp m) (u.bn m) (u.bc m), .tuple #[], pt kx2 0, .slice p n c, .int .i64 ((m : Nat) : Int), .pointer (some ⟨b0, o0 + m * 3, none⟩), .pointer (some ⟨b0, o0 + m * 3 + 1, none⟩), .int .u8 (u.tag m), L.v 6, .slice p n c, .int .i64 ((m : Nat) : Int), .pointer (some ⟨b0, o0 + m * 3, none⟩), .pointer (some ⟨b0, o0 + m * 3 + 2, none⟩), .slice (u.bp m) (u.bn m) (u.bc m), L.v 12] ++ D d 82 39))))))))) hpx3 ⟨
        oM, oM, oM, oIP (n := n) (c := c) (sz := 3) m ep Try.underlying22 sizeTu hm, oF fTu1, oLT oneY (fun w hs => cell_up hc1 hs.bel), oE0, oM, oM, oIP (n := n) (c := c) (sz := 3) m ep Try.underlying22 sizeTu hm, oF fTu2, oLT oneYS (fun w hs => cell_up hc2 hs.bel), oApN 6 (by omega) (hT.cap m hm) (fun w hb => (hT.byt m hm).below hb), trivial⟩ (fun L10 w11t hp11t ha11t => ?_)
      refine tail1 (by kernel_rfl) (wpOp_of rfl rfl (wp_callG (vs := #[pt kx2 0, .int .u8 (u.tag m), (L10.v 12)]) (R := fun v x => v = .tuple #[] ∧ Chg kx2 w11t x ∧ Box x kx2 (BC (tellS (stp u (begS (sby st) st.size) m) (u.tag m) (u.bf m) (u.bn m)) 32)) (Calls.mono (tellA kx2 (stp u (begS (sby st) st.size) m) (u.tag m) (u.bf m) (u.bn m) _ (hp11t.bound 1 rfl).2 hBy htg (ha11t 12 _ (by decide) rfl) (hT.rg m hm) hlm) (fun e x ⟨h1, h2, h3⟩ => ⟨_, h1, rfl, h2, h3⟩)) (fun vx4 x4 ⟨hvx4, h2x4, h3x4⟩ => ?_)))
      subst hvx4
      have hpx4 := Heap.chg (H1 := [_]) (H2 := []) hp11t h2x4 h3x4
      refine k13 _ _ _ ?_
      refine block_normal ?_
      refine k12 _ _ ?_
      refine gs [.det (.int .i64 ((m : Nat) : Int)), .det (.int .i64 ((m + 1 : Nat) : Int)), .det (.int .i64 ((m + 1 : Nat) : Int))] [0, 1, 2] [0, 1, 3] (fun L => [d 0, .slice p n c, .slice q nb cb] ++ (D d 3 4 ++ ([pt kx1 0, pt kx2 0, .int .i64 ((m + 1 : Nat) : Int)] ++ (D d 10 21 ++ ([.int .i64 ((m : Nat) : Int), .slice p n c, .int .i64 n, .bool true, .int .i64 ((m : Nat) : Int), .int .i64 ((m + 1 : Nat) : Int), .slice p n c, .int .i64 ((m : Nat) : Int), .pointer (some ⟨b0, o0 + m * 3, none⟩), .pointer (some ⟨b0, o0 + m * 3, none⟩), .bool false] ++ (D d 42 15 ++ ([pt kx1 0, .slice p n c, .int .i64 ((m : Nat) : Int), .pointer (some ⟨b0, o0 + m * 3, none⟩), .pointer (some ⟨b0, o0 + m * 3 + 1, none⟩), .int .u8 (u.tag m), .slice p n c, .int .i64 ((m : Nat) : Int), .pointer (some ⟨b0, o0 + m * 3, none⟩), .pointer (some ⟨b0, o0 + m * 3 + 2, none⟩), .slice (u.bp m) (u.bn m) (u.bc m), .tuple #[], pt kx2 0, .slice p n c, .int .i64 ((m : Nat) : Int), .pointer (some ⟨b0, o0 + m * 3, none⟩), .pointer (some ⟨b0, o0 + m * 3 + 1, none⟩), .int .u8 (u.tag m), (L10.v 6), .slice p n c, .int .i64 ((m : Nat) : Int), .pointer (some ⟨b0, o0 + m * 3, none⟩), .pointer (some ⟨b0, o0 + m * 3 + 2, none⟩), .slice (u.bp m) (u.bn m) (u.bc m), (L10.v 12), .tuple #[]] ++ D d 83 38))))))) (fun L => [(kx1, BC (tellS (stp u (begS (sby st) st.size) m) (u.tag m) (u.bf m) (u.bn m)) 32), (kx2, BC (tellS (stp u (begS (sby st) st.size) m) (u.tag m) (u.bf m) (u.bn m)) 32)]) hpx4 ⟨
        oM, oJ .i64 .i64 ((m : Nat) : Int) 1 (h := fun w => add1N _ (m) (by omega) w), oA,
        trivial⟩ (fun L11 w12 hp12 => ?_)
      exact ⟨L - 1, by omega, m + 1, (fun zz => ([d 0, .slice p n c, .slice q nb cb] ++ (D d 3 4 ++ ([pt kx1 0, pt kx2 0, .int .i64 ((m + 1 : Nat) : Int)] ++ (D d 10 21 ++ ([.int .i64 ((m : Nat) : Int), .slice p n c, .int .i64 n, .bool true, .int .i64 ((m : Nat) : Int), .int .i64 ((m + 1 : Nat) : Int), .slice p n c, .int .i64 ((m : Nat) : Int), .pointer (some ⟨b0, o0 + m * 3, none⟩), .pointer (some ⟨b0, o0 + m * 3, none⟩), .bool false] ++ (D d 42 15 ++ ([pt kx1 0, .slice p n c, .int .i64 ((m : Nat) : Int), .pointer (some ⟨b0, o0 + m * 3, none⟩), .pointer (some ⟨b0, o0 + m * 3 + 1, none⟩), .int .u8 (u.tag m), .slice p n c, .int .i64 ((m : Nat) : Int), .pointer (some ⟨b0, o0 + m * 3, none⟩), .pointer (some ⟨b0, o0 + m * 3 + 2, none⟩), .slice (u.bp m) (u.bn m) (u.bc m), .tuple #[], pt kx2 0, .slice p n c, .int .i64 ((m : Nat) : Int), .pointer (some ⟨b0, o0 + m * 3, none⟩), .pointer (some ⟨b0, o0 + m * 3 + 1, none⟩), .int .u8 (u.tag m), (L10.v 6), .slice p n c, .int .i64 ((m : Nat) : Int), .pointer (some ⟨b0, o0 + m * 3, none⟩), .pointer (some ⟨b0, o0 + m * 3 + 2, none⟩), .slice (u.bp m) (u.bn m) (u.bc m), (L10.v 12), .tuple #[]] ++ D d 83 38)))))) : List Value).getD zz undef), by kernel_rfl, by omega, by rw [← stp_t hq]; exact hp12⟩
    · skip
      rw [hq] at hc0
      refine wp_seq_k (fun K16 k16 => ?_)
      refine wp_seq_k (fun K17 k17 => ?_)
      refine gs [.det (.int .i64 ((m : Nat) : Int)), .det (.slice p n c), .det (.int .i64 n), .det (.bool true)] [0, 1, 2, 3] [0, 0, 2, 7] (fun L => [d 0, .slice p n c, .slice q nb cb] ++ (D d 3 4 ++ ([pt kx1 0, pt kx2 0, .int .i64 ((m : Nat) : Int)] ++ (D d 10 21 ++ ([.int .i64 ((m : Nat) : Int), .slice p n c, .int .i64 n, .bool true] ++ D d 35 86))))) (fun L => [(kx1, BC (stp u (begS (sby st) st.size) m) 32), (kx2, BC (stp u (begS (sby st) st.size) m) 32)]) hJ ⟨
        oM, oM, fun h => ⟨ob_len (p := p) (n := n) (c := c) (fun _ => rfl) h rfl (fun _ => by kernel_rfl) Try.underlying22⟩, oJ .i64 .i64 ((m : Nat) : Int) n (h := fun w => (lssI _ _ _ w).trans (by rw [decide_eq_true (by omega)])),
        trivial⟩ (fun L12 w13 hp13 => ?_)
      refine k17 _ _ ?_
      refine wp_cond_true (by kernel_rfl) ?_
      refine skips ?_
      refine k16 _ _ ?_
      refine wp_seq_k (fun K18 k18 => ?_)
      refine wp_block_k (fun K19 k19 => ?_)
      refine wp_seq_k (fun K20 k20 => ?_)
      refine gs [.det (.slice p n c), .det (.int .i64 ((m : Nat) : Int)), .det (.pointer (some ⟨b0, o0 + m * 3, none⟩)), .det (.pointer (some ⟨b0, o0 + m * 3, none⟩)), .det (.bool true)] [0, 1, 2, 3, 4] [0, 0, 3, 7, 15] (fun L => [d 0, .slice p n c, .slice q nb cb] ++ (D d 3 4 ++ ([pt kx1 0, pt kx2 0, .int .i64 ((m : Nat) : Int)] ++ (D d 10 21 ++ ([.int .i64 ((m : Nat) : Int), .slice p n c, .int .i64 n, .bool true] ++ (D d 35 2 ++ ([.slice p n c, .int .i64 ((m : Nat) : Int), .pointer (some ⟨b0, o0 + m * 3, none⟩), .pointer (some ⟨b0, o0 + m * 3, none⟩), .bool true] ++ D d 42 79))))))) (fun L => [(kx1, BC (stp u (begS (sby st) st.size) m) 32), (kx2, BC (stp u (begS (sby st) st.size) m) 32)]) hp13 ⟨
        oM, oM, oIP (n := n) (c := c) (sz := 3) m ep Try.underlying22 sizeTu hm, oF fTu0, oLT oneB (fun w hs => cell_up hc0 hs.bel),
        trivial⟩ (fun L13 w14 hp14 => ?_)
      refine k20 _ _ ?_
      refine wp_cond_true (by kernel_rfl) ?_
      refine wp_seq_k (fun K21 k21 => ?_)
      refine dr [.det (pt kx1 0), .det (.slice p n c), .det (.int .i64 ((m : Nat) : Int)), .det (.pointer (some ⟨b0, o0 + m * 3, none⟩)), .det (.pointer (some ⟨b0, o0 + m * 3 + 1, none⟩)), .det (.int .u8 (u.tag m)), .turn 0 (RV (askN (stp u (begS (sby st) st.size) m) (u.tag m))) (BC (askS (stp u (begS (sby st) st.size) m) (u.tag m)) 32), .det (pt kx2 0), .det (.slice p n c), .det (.int .i64 ((m : Nat) : Int)), .det (.pointer (some ⟨b0, o0 + m * 3, none⟩)), .det (.pointer (some ⟨b0, o0 + m * 3 + 1, none⟩)), .det (.int .u8 (u.tag m)), .turn 1 (RV (askN (stp u (begS (sby st) st.size) m) (u.tag m))) (BC (askS (stp u (begS (sby st) st.size) m) (u.tag m)) 32), .det (.bool false)] [0, 1, 2, 3, 4, 5, 6, 7, 8, 9, 10, 11, 12, 13, 14] [0, 0, 0, 6, 14, 30, 63, 0, 0, 0, 768, 1792, 3840, 8191, 16383] (fun L => [d 0, .slice p n c, .slice q nb cb] ++ (D d 3 4 ++ ([pt kx1 0, pt kx2 0, .int .i64 ((m : Nat) : Int)] ++ (D d 10 21 ++ ([.int .i64 ((m : Nat) : Int), .slice p n c, .int .i64 n, .bool true] ++ (D d 35 2 ++ ([.slice p n c, .int .i64 ((m : Nat) : Int), .pointer (some ⟨b0, o0 + m * 3, none⟩), .pointer (some ⟨b0, o0 + m * 3, none⟩), .bool true, pt kx1 0, .slice p n c, .int .i64 ((m : Nat) : Int), .pointer (some ⟨b0, o0 + m * 3, none⟩), .pointer (some ⟨b0, o0 + m * 3 + 1, none⟩), .int .u8 (u.tag m), RV (askN (stp u (begS (sby st) st.size) m) (u.tag m)), pt kx2 0, .slice p n c, .int .i64 ((m : Nat) : Int), .pointer (some ⟨b0, o0 + m * 3, none⟩), .pointer (some ⟨b0, o0 + m * 3 + 1, none⟩), .int .u8 (u.tag m), RV (askN (stp u (begS (sby st) st.size) m) (u.tag m)), .bool false] ++ D d 57 64))))))) (fun L => [(kx1, BC (askS (stp u (begS (sby st) st.size) m) (u.tag m)) 32), (kx2, BC (askS (stp u (begS (sby st) st.size) m) (u.tag m)) 32)]) hp14 ⟨
        oM, oM, oM, oIP (n := n) (c := c) (sz := 3) m ep Try.underlying22 sizeTu hm, oF fTu1, oLT oneY (fun w hs => cell_up hc1 hs.bel), oTu (fun w hb hx => askP kx1 (stp u (begS (sby st) st.size) m) (u.tag m) w hx hBy htg),
        oM, oM, oM, oIP (n := n) (c := c) (sz := 3) m ep Try.underlying22 sizeTu hm, oF fTu1, oLT oneY (fun w hs => cell_up hc1 hs.bel), oTu (fun w hb hx => askP kx2 (stp u (begS (sby st) st.size) m) (u.tag m) w hx hBy htg),
        oW (u := RV (askN (stp u (begS (sby st) st.size) m) (u.tag m))) (v := RV (askN (stp u (begS (sby st) st.size) m) (u.tag m))) (r := .bool false) (fun w => guardR _ _ _ _ _ w) (fun w => neqRs _ w),
        trivial⟩ (fun L14 w15 hp15 => ?_)
      refine k21 _ _ ?_
      refine wp_cond_false (by kernel_rfl) ?_
      refine skips ?_
      refine k19 _ _ _ ?_
      refine block_normal ?_
      refine k18 _ _ ?_
      refine gs [.det (.int .i64 ((m : Nat) : Int)), .det (.int .i64 ((m + 1 : Nat) : Int)), .det (.int .i64 ((m + 1 : Nat) : Int))] [0, 1, 2] [0, 1, 3] (fun L => [d 0, .slice p n c, .slice q nb cb] ++ (D d 3 4 ++ ([pt kx1 0, pt kx2 0, .int .i64 ((m + 1 : Nat) : Int)] ++ (D d 10 21 ++ ([.int .i64 ((m : Nat) : Int), .slice p n c, .int .i64 n, .bool true, .int .i64 ((m : Nat) : Int), .int .i64 ((m + 1 : Nat) : Int), .slice p n c, .int .i64 ((m : Nat) : Int), .pointer (some ⟨b0, o0 + m * 3, none⟩), .pointer (some ⟨b0, o0 + m * 3, none⟩), .bool true, pt kx1 0, .slice p n c, .int .i64 ((m : Nat) : Int), .pointer (some ⟨b0, o0 + m * 3, none⟩), .pointer (some ⟨b0, o0 + m * 3 + 1, none⟩), .int .u8 (u.tag m), RV (askN (stp u (begS (sby st) st.size) m) (u.tag m)), pt kx2 0, .slice p n c, .int .i64 ((m : Nat) : Int), .pointer (some ⟨b0, o0 + m * 3, none⟩), .pointer (some ⟨b0, o0 + m * 3 + 1, none⟩), .int .u8 (u.tag m), RV (askN (stp u (begS (sby st) st.size) m) (u.tag m)), .bool false] ++ D d 57 64))))) (fun L => [(kx1, BC (askS (stp u (begS (sby st) st.size) m) (u.tag m)) 32), (kx2, BC (askS (stp u (begS (sby st) st.size) m) (u.tag m)) 32)]) hp15 ⟨
        oM, oJ .i64 .i64 ((m : Nat) : Int) 1 (h := fun w => add1N _ (m) (by omega) w), oA,
        trivial⟩ (fun L15 w16 hp16 => ?_)
      exact ⟨L - 1, by omega, m + 1, (fun zz => ([d 0, .slice p n c, .slice q nb cb] ++ (D d 3 4 ++ ([pt kx1 0, pt kx2 0, .int .i64 ((m + 1 : Nat) : Int)] ++ (D d 10 21 ++ ([.int .i64 ((m : Nat) : Int), .slice p n c, .int .i64 n, .bool true, .int .i64 ((m : Nat) : Int), .int .i64 ((m + 1 : Nat) : Int), .slice p n c, .int .i64 ((m : Nat) : Int), .pointer (some ⟨b0, o0 + m * 3, none⟩), .pointer (some ⟨b0, o0 + m * 3, none⟩), .bool true, pt kx1 0, .slice p n c, .int .i64 ((m : Nat) : Int), .pointer (some ⟨b0, o0 + m * 3, none⟩), .pointer (some ⟨b0, o0 + m * 3 + 1, none⟩), .int .u8 (u.tag m), RV (askN (stp u (begS (sby st) st.size) m) (u.tag m)), pt kx2 0, .slice p n c, .int .i64 ((m : Nat) : Int), .pointer (some ⟨b0, o0 + m * 3, none⟩), .pointer (some ⟨b0, o0 + m * 3 + 1, none⟩), .int .u8 (u.tag m), RV (askN (stp u (begS (sby st) st.size) m) (u.tag m)), .bool false] ++ D d 57 64)))) : List Value).getD zz undef), by kernel_rfl, by omega, by rw [← stp_a hq]; exact hp16⟩
  obtain rfl : n = m := by omega
  refine wp_seq_k (fun K22 k22 => ?_)
  refine wp_seq_k (fun K23 k23 => ?_)
  refine gs [.det (.int .i64 ((n : Nat) : Int)), .det (.slice p n c), .det (.int .i64 n), .det (.bool false)] [0, 1, 2, 3] [0, 0, 2, 7] (fun L => [d 0, .slice p n c, .slice q nb cb] ++ (D d 3 4 ++ ([pt kx1 0, pt kx2 0, .int .i64 ((n : Nat) : Int)] ++ (D d 10 21 ++ ([.int .i64 ((n : Nat) : Int), .slice p n c, .int .i64 n, .bool false] ++ D d 35 86))))) (fun L => [(kx1, BC (stp u (begS (sby st) st.size) n) 32), (kx2, BC (stp u (begS (sby st) st.size) n) 32)]) hJ ⟨
    oM, oM, fun h => ⟨ob_len (p := p) (n := n) (c := c) (fun _ => rfl) h rfl (fun _ => by kernel_rfl) Try.underlying22⟩, oJ .i64 .i64 ((n : Nat) : Int) n (h := fun w => (lssI _ _ _ w).trans (by rw [decide_eq_false (by omega)])),
    trivial⟩ (fun L16 w17 hp17 => ?_)
  refine k23 _ _ ?_
  refine wp_cond_false (by kernel_rfl) ?_
  refine wp_exit ?_
  refine then_exit ?_
  refine then_exit ?_
  refine k9 _ _ _ ?_
  refine exit_in ?_
  refine k7 _ _ ?_
  refine wp_seq_k (fun K24 k24 => ?_)
  refine wp_seq_k (fun K25 k25 => ?_)
  refine gs [.det (pt kx1 0), .det (VB (stp u (begS (sby st) st.size) n) 32), .det (pt kx2 0), .det (VB (stp u (begS (sby st) st.size) n) 32), .det (.bool false)] [0, 1, 2, 3, 4] [0, 1, 0, 7, 15] (fun L => [d 0, .slice p n c, .slice q nb cb] ++ (D d 3 4 ++ ([pt kx1 0, pt kx2 0, .int .i64 ((n : Nat) : Int)] ++ (D d 10 21 ++ ([.int .i64 ((n : Nat) : Int), .slice p n c, .int .i64 n, .bool false] ++ (D d 35 48 ++ ([pt kx1 0, VB (stp u (begS (sby st) st.size) n) 32, pt kx2 0, VB (stp u (begS (sby st) st.size) n) 32, .bool false] ++ D d 88 33))))))) (fun L => [(kx1, BC (stp u (begS (sby st) st.size) n) 32), (kx2, BC (stp u (begS (sby st) st.size) n) 32)]) hp17 ⟨
    oM, oCT (fun w hs => stateP (hs.base 0 _ _ rfl (by kernel_rfl))), oM, oCT (fun w hs => stateP (hs.base 1 _ _ rfl (by kernel_rfl))), oW (u := VB (stp u (begS (sby st) st.size) n) 32) (v := VB (stp u (begS (sby st) st.size) n) 32) (r := .bool false) (fun w => guardA _ _ _ _ _ w) (fun w => neqA _ w),
    trivial⟩ (fun L17 w18 hp18 => ?_)
  refine k25 _ _ ?_
  refine wp_cond_false (by kernel_rfl) ?_
  refine skips ?_
  refine k24 _ _ ?_
  refine wp_seq_k (fun K26 k26 => ?_)
  refine wp_region_list ?_
  refine gsC 2 [.det (pt kx1 0), .det (.slice q nb cb)] [0, 1] [0, 1] (fun L _ => [d 0, .slice p n c, .slice q nb cb, d 3, d 4, d 5, d 6, pt kx1 0, pt kx2 0, .int .i64 ((n : Nat) : Int), d 10, d 11, d 12, d 13, d 14, d 15, d 16, d 17, d 18, d 19, d 20, d 21, d 22, d 23, d 24, d 25, d 26, d 27, d 28, d 29, d 30, .int .i64 ((n : Nat) : Int), .slice p n c, .int .i64 n, .bool false, d 35, d 36, d 37, d 38, d 39, d 40, d 41, d 42, d 43, d 44, d 45, d 46, d 47, d 48, d 49, d 50, d 51, d 52, d 53, d 54, d 55, d 56, d 57, d 58, d 59, d 60, d 61, d 62, d 63, d 64, d 65, d 66, d 67, d 68, d 69, d 70, d 71, d 72, d 73, d 74, d 75, d 76, d 77, d 78, d 79, d 80, d 81, d 82, pt kx1 0, VB (stp u (begS (sby st) st.size) n) 32, pt kx2 0, VB (stp u (begS (sby st) st.size) n) 32, .bool false, pt kx1 0, .slice q nb cb, d 90, d 91, d 92, d 93, d 94, d 95, d 96, d 97, d 98, d 99, d 100, d 101, d 102, d 103, d 104, d 105, d 106, d 107, d 108, d 109, d 110, d 111, d 112, d 113, d 114, d 115, d 116, d 117, d 118, d 119, d 120]) (fun L => [(kx1, BC (stp u (begS (sby st) st.size) n) 32), (kx2, BC (stp u (begS (sby st) st.size) n) 32)]) hp18 ⟨
    oM, oM,
    trivial⟩ (fun L18 _ w19 hp19 ha19 => ?_)
  refine oneL rfl rfl (wp_callG (vs := #[pt kx1 0, .int .u8 1, .slice q nb cb]) (R := fun v x => v = .tuple #[] ∧ Chg kx1 w19 x ∧ Box x kx1 (BC (tellS (stp u (begS (sby st) st.size) n) 1 g nb) 32)) (Calls.mono (tellP kx1 (stp u (begS (sby st) st.size) n) 1 g q nb cb _ (hp19.bound 0 rfl).2 (By.stp (By.begS (sby st) st.size) n) (by decide) (hq.below hp19.bel) hnc hg hnb) (fun e x ⟨h1, h2, h3⟩ => ⟨_, h1, rfl, h2, h3⟩)) (fun vx5 x5 ⟨hvx5, h2x5, h3x5⟩ => ?_))
  subst hvx5
  have hpx5 := Heap.chg (H1 := []) (H2 := [_]) hp19 h2x5 h3x5
  refine wpList_nil ?_
  refine k26 _ _ ?_
  refine wp_seq_k (fun K27 k27 => ?_)
  refine wp_region_list ?_
  refine oneL rfl rfl (wp_emptyY (f := g) rfl (fun xe hoe hbe => ?_))
  have hpe := Heap.later hpx5 hbe
  refine oneL rfl rfl (wp_moveH (v := .slice q nb cb) rfl (by kernel_rfl) ?_)
  refine oneL rfl rfl (wp_appendF (.tmp 91) (.tmp 92) rfl (b0 := x5.heap.size) (n := nb) (c := cb) (p := q) (g := g) (by kernel_rfl) hoe (by kernel_rfl) (hq.below hpe.bel) (by omega) hbe.size (fun ku ccu xu hcu hku hbu hlu => ?_))
  have hpu := Heap.add (Heap.under hpe hpx5.le hlu (Heap.lts hpx5)) (Nat.le_trans hpx5.le hku) (fun b hb => Nat.lt_of_lt_of_le (Heap.lts hpx5 b hb) hku) hbu
  refine gsC 1 [.det (.slice (some ⟨ku, 0, none⟩) nb ccu)] [0] [0] (fun L _ => [d 0, .slice p n c, .slice q nb cb, d 3, d 4, d 5, d 6, pt kx1 0, pt kx2 0, .int .i64 ((n : Nat) : Int), .slice (some ⟨ku, 0, none⟩) nb ccu, d 11, d 12, d 13, d 14, d 15, d 16, d 17, d 18, d 19, d 20, d 21, d 22, d 23, d 24, d 25, d 26, d 27, d 28, d 29, d 30, .int .i64 ((n : Nat) : Int), .slice p n c, .int .i64 n, .bool false, d 35, d 36, d 37, d 38, d 39, d 40, d 41, d 42, d 43, d 44, d 45, d 46, d 47, d 48, d 49, d 50, d 51, d 52, d 53, d 54, d 55, d 56, d 57, d 58, d 59, d 60, d 61, d 62, d 63, d 64, d 65, d 66, d 67, d 68, d 69, d 70, d 71, d 72, d 73, d 74, d 75, d 76, d 77, d 78, d 79, d 80, d 81, d 82, pt kx1 0, VB (stp u (begS (sby st) st.size) n) 32, pt kx2 0, VB (stp u (begS (sby st) st.size) n) 32, .bool false, pt kx1 0, .slice q nb cb, .tuple #[], .slice (some ⟨x5.heap.size, 0, none⟩) 0 0, .slice q nb cb, .slice (some ⟨ku, 0, none⟩) nb ccu, d 94, d 95, d 96, d 97, d 98, d 99, d 100, d 101, d 102, d 103, d 104, d 105, d 106, d 107, d 108, d 109, d 110, d 111, d 112, d 113, d 114, d 115, d 116, d 117, d 118, d 119, d 120]) (fun L => [(kx1, BC (tellS (stp u (begS (sby st) st.size) n) 1 g nb) 32), (kx2, BC (stp u (begS (sby st) st.size) n) 32), (ku, BC g nb)]) hpu ⟨
    oA,
    trivial⟩ (fun L19 _ w20 hp20 ha20 => ?_)
  refine wpList_nil ?_
  refine k27 _ _ ?_
  refine wp_seq_k (fun K28 k28 => ?_)
  refine wp_region_list ?_
  refine gsC 2 [.det (pt kx2 0), .det (.slice (some ⟨ku, 0, none⟩) nb ccu)] [0, 1] [0, 1] (fun L _ => [d 0, .slice p n c, .slice q nb cb, d 3, d 4, d 5, d 6, pt kx1 0, pt kx2 0, .int .i64 ((n : Nat) : Int), .slice (some ⟨ku, 0, none⟩) nb ccu, d 11, d 12, d 13, d 14, d 15, d 16, d 17, d 18, d 19, d 20, d 21, d 22, d 23, d 24, d 25, d 26, d 27, d 28, d 29, d 30, .int .i64 ((n : Nat) : Int), .slice p n c, .int .i64 n, .bool false, d 35, d 36, d 37, d 38, d 39, d 40, d 41, d 42, d 43, d 44, d 45, d 46, d 47, d 48, d 49, d 50, d 51, d 52, d 53, d 54, d 55, d 56, d 57, d 58, d 59, d 60, d 61, d 62, d 63, d 64, d 65, d 66, d 67, d 68, d 69, d 70, d 71, d 72, d 73, d 74, d 75, d 76, d 77, d 78, d 79, d 80, d 81, d 82, pt kx1 0, VB (stp u (begS (sby st) st.size) n) 32, pt kx2 0, VB (stp u (begS (sby st) st.size) n) 32, .bool false, pt kx1 0, .slice q nb cb, .tuple #[], .slice (some ⟨x5.heap.size, 0, none⟩) 0 0, .slice q nb cb, .slice (some ⟨ku, 0, none⟩) nb ccu, pt kx2 0, .slice (some ⟨ku, 0, none⟩) nb ccu, d 96, d 97, d 98, d 99, d 100, d 101, d 102, d 103, d 104, d 105, d 106, d 107, d 108, d 109, d 110, d 111, d 112, d 113, d 114, d 115, d 116, d 117, d 118, d 119, d 120]) (fun L => [(kx1, BC (tellS (stp u (begS (sby st) st.size) n) 1 g nb) 32), (kx2, BC (stp u (begS (sby st) st.size) n) 32), (ku, BC g nb)]) hp20 ⟨
    oM, oM,
    trivial⟩ (fun L20 _ w21 hp21 ha21 => ?_)
  refine oneL rfl rfl (wp_callG (vs := #[pt kx2 0, .int .u8 1, .slice (some ⟨ku, 0, none⟩) nb ccu]) (R := fun v x => v = .tuple #[] ∧ Chg kx2 w21 x ∧ Box x kx2 (BC (tellS (stp u (begS (sby st) st.size) n) 1 g nb) 32)) (Calls.mono (tellP kx2 (stp u (begS (sby st) st.size) n) 1 g (some ⟨ku, 0, none⟩) nb ccu _ (hp21.bound 1 rfl).2 (By.stp (By.begS (sby st) st.size) n) (by decide) (box_at (hp21.bound 2 rfl).2) hcu hg hnb) (fun e x ⟨h1, h2, h3⟩ => ⟨_, h1, rfl, h2, h3⟩)) (fun vx6 x6 ⟨hvx6, h2x6, h3x6⟩ => ?_))
  subst hvx6
  have hpx6 := Heap.chg (H1 := [_]) (H2 := [_]) hp21 h2x6 h3x6
  refine wpList_nil ?_
  refine k28 _ _ ?_
  refine wp_seq_k (fun K29 k29 => ?_)
  refine wp_seq_k (fun K30 k30 => ?_)
  refine gs [.det (.int .i64 0)] [0] [0] (fun L => [d 0, .slice p n c, .slice q nb cb] ++ (D d 3 4 ++ ([pt kx1 0, pt kx2 0, .int .i64 ((n : Nat) : Int), .slice (some ⟨ku, 0, none⟩) nb ccu, .int .i64 0] ++ (D d 12 19 ++ ([.int .i64 ((n : Nat) : Int), .slice p n c, .int .i64 n, .bool false] ++ (D d 35 48 ++ ([pt kx1 0, VB (stp u (begS (sby st) st.size) n) 32, pt kx2 0, VB (stp u (begS (sby st) st.size) n) 32, .bool false, pt kx1 0, .slice q nb cb, .tuple #[], .slice (some ⟨x5.heap.size, 0, none⟩) 0 0, .slice q nb cb, .slice (some ⟨ku, 0, none⟩) nb ccu, pt kx2 0, .slice (some ⟨ku, 0, none⟩) nb ccu, .tuple #[]] ++ D d 97 24))))))) (fun L => [(kx1, BC (tellS (stp u (begS (sby st) st.size) n) 1 g nb) 32), (kx2, BC (tellS (stp u (begS (sby st) st.size) n) 1 g nb) 32), (ku, BC g nb)]) hpx6 ⟨
    oA,
    trivial⟩ (fun L21 w22 hp22 => ?_)
  refine k30 _ _ ?_
  refine wp_block_k (fun K31 k31 => ?_)
  refine wp_loop_ghost (tsJ st u n g nb ccu w kx1 kx2 ku) nb ⟨0, (fun zz => ([d 0, .slice p n c, .slice q nb cb] ++ (D d 3 4 ++ ([pt kx1 0, pt kx2 0, .int .i64 ((n : Nat) : Int), .slice (some ⟨ku, 0, none⟩) nb ccu, .int .i64 0] ++ (D d 12 19 ++ ([.int .i64 ((n : Nat) : Int), .slice p n c, .int .i64 n, .bool false] ++ (D d 35 48 ++ ([pt kx1 0, VB (stp u (begS (sby st) st.size) n) 32, pt kx2 0, VB (stp u (begS (sby st) st.size) n) 32, .bool false, pt kx1 0, .slice q nb cb, .tuple #[], .slice (some ⟨x5.heap.size, 0, none⟩) 0 0, .slice q nb cb, .slice (some ⟨ku, 0, none⟩) nb ccu, pt kx2 0, .slice (some ⟨ku, 0, none⟩) nb ccu, .tuple #[]] ++ D d 97 24)))))) : List Value).getD zz undef), by kernel_rfl, Nat.zero_add _, by rw [flp_0]; exact hp22⟩ ?_
  rintro L a' W ⟨m, d, rfl, hL, hJ⟩
  by_cases hL0 : L = 0
  rotate_left
  · skip
    have hm : m < nb := by omega
    refine wp_seq_k (fun K32 k32 => ?_)
    refine wp_seq_k (fun K33 k33 => ?_)
    refine gs [.det (.int .i64 ((m : Nat) : Int)), .det (.slice (some ⟨ku, 0, none⟩) nb ccu), .det (.int .i64 nb), .det (.bool true)] [0, 1, 2, 3] [0, 0, 2, 7] (fun L => D d 0 7 ++ ([pt kx1 0, pt kx2 0, d 9, .slice (some ⟨ku, 0, none⟩) nb ccu, .int .i64 ((m : Nat) : Int)] ++ (D d 12 85 ++ ([.int .i64 ((m : Nat) : Int), .slice (some ⟨ku, 0, none⟩) nb ccu, .int .i64 nb, .bool true] ++ D d 101 20)))) (fun L => [(kx1, BC (tellS (stp u (begS (sby st) st.size) n) 1 g nb) 32), (kx2, BC (tellS (stp u (begS (sby st) st.size) n) 1 g nb) 32), (ku, BC (flp g m) nb)]) hJ ⟨
      oM, oM, fun h => ⟨ob_len (p := (some ⟨ku, 0, none⟩)) (n := nb) (c := ccu) (fun _ => rfl) h rfl (fun _ => by kernel_rfl) Try.underlying29⟩, oJ .i64 .i64 ((m : Nat) : Int) nb (h := fun w => (lssI _ _ _ w).trans (by rw [decide_eq_true (by omega)])),
      trivial⟩ (fun L22 w23 hp23 => ?_)
    refine k33 _ _ ?_
    refine wp_cond_true (by kernel_rfl) ?_
    refine skips ?_
    refine k32 _ _ ?_
    refine wp_seq_k (fun K34 k34 => ?_)
    refine wp_block_k (fun K35 k35 => ?_)
    refine gs [.det (.slice (some ⟨ku, 0, none⟩) nb ccu), .det (.int .i64 ((m : Nat) : Int)), .det (.pointer (some ⟨ku, 0 + m * 1, none⟩)), .det (.int .u8 ((flp g m) m)), .det (.int .u8 (bits .xor .u8 ((flp g m) m) 1)), .det (.pointer (some ⟨ku, 0 + m * 1, none⟩)), .store (.base 2) (0 + m * 1) ([.int .u8 (bits .xor .u8 ((flp g m) m) 1)]) (BC (su (flp g m) m (bits .xor .u8 ((flp g m) m) 1)) nb)] [0, 1, 2, 3, 4, 5, 6] [0, 0, 3, 7, 15, 31, 63] (fun L => D d 0 7 ++ ([pt kx1 0, pt kx2 0, d 9, .slice (some ⟨ku, 0, none⟩) nb ccu, .int .i64 ((m : Nat) : Int)] ++ (D d 12 85 ++ ([.int .i64 ((m : Nat) : Int), .slice (some ⟨ku, 0, none⟩) nb ccu, .int .i64 nb, .bool true] ++ (D d 101 2 ++ ([.slice (some ⟨ku, 0, none⟩) nb ccu, .int .i64 ((m : Nat) : Int), .pointer (some ⟨ku, 0 + m * 1, none⟩), .int .u8 ((flp g m) m), .int .u8 (bits .xor .u8 ((flp g m) m) 1), .pointer (some ⟨ku, 0 + m * 1, none⟩)] ++ D d 109 12)))))) (fun L => [(kx1, BC (tellS (stp u (begS (sby st) st.size) n) 1 g nb) 32), (kx2, BC (tellS (stp u (begS (sby st) st.size) n) 1 g nb) 32), (ku, BC (su (flp g m) m (bits .xor .u8 ((flp g m) m) 1)) nb)]) hp23 ⟨
      oM, oM, oIS (n := nb) (c := ccu) m Try.underlying29 sizeY hm, oLY 2 hm, oJ .u8 .u8 ((flp g m) m) 1 (h := fun w => xorY _ _ w), oIS (n := nb) (c := ccu) m Try.underlying29 sizeY hm,
      oTY (n := nb) (j := m) hm,
      trivial⟩ (fun L23 w24 hp24 => ?_)
    refine k35 _ _ _ ?_
    refine block_normal ?_
    refine k34 _ _ ?_
    refine gs [.det (.int .i64 ((m : Nat) : Int)), .det (.int .i64 ((m + 1 : Nat) : Int)), .det (.int .i64 ((m + 1 : Nat) : Int))] [0, 1, 2] [0, 1, 3] (fun L => D d 0 7 ++ ([pt kx1 0, pt kx2 0, d 9, .slice (some ⟨ku, 0, none⟩) nb ccu, .int .i64 ((m + 1 : Nat) : Int)] ++ (D d 12 85 ++ ([.int .i64 ((m : Nat) : Int), .slice (some ⟨ku, 0, none⟩) nb ccu, .int .i64 nb, .bool true, .int .i64 ((m : Nat) : Int), .int .i64 ((m + 1 : Nat) : Int), .slice (some ⟨ku, 0, none⟩) nb ccu, .int .i64 ((m : Nat) : Int), .pointer (some ⟨ku, 0 + m * 1, none⟩), .int .u8 ((flp g m) m), .int .u8 (bits .xor .u8 ((flp g m) m) 1), .pointer (some ⟨ku, 0 + m * 1, none⟩)] ++ D d 109 12)))) (fun L => [(kx1, BC (tellS (stp u (begS (sby st) st.size) n) 1 g nb) 32), (kx2, BC (tellS (stp u (begS (sby st) st.size) n) 1 g nb) 32), (ku, BC (su (flp g m) m (bits .xor .u8 ((flp g m) m) 1)) nb)]) hp24 ⟨
      oM, oJ .i64 .i64 ((m : Nat) : Int) 1 (h := fun w => add1N _ (m) (by omega) w), oA,
      trivial⟩ (fun L24 w25 hp25 => ?_)
    exact ⟨L - 1, by omega, m + 1, (fun zz => (D d 0 7 ++ ([pt kx1 0, pt kx2 0, d 9, .slice (some ⟨ku, 0, none⟩) nb ccu, .int .i64 ((m + 1 : Nat) : Int)] ++ (D d 12 85 ++ ([.int .i64 ((m : Nat) : Int), .slice (some ⟨ku, 0, none⟩) nb ccu, .int .i64 nb, .bool true, .int .i64 ((m : Nat) : Int), .int .i64 ((m + 1 : Nat) : Int), .slice (some ⟨ku, 0, none⟩) nb ccu, .int .i64 ((m : Nat) : Int), .pointer (some ⟨ku, 0 + m * 1, none⟩), .int .u8 ((flp g m) m), .int .u8 (bits .xor .u8 ((flp g m) m) 1), .pointer (some ⟨ku, 0 + m * 1, none⟩)] ++ D d 109 12))) : List Value).getD zz undef), by kernel_rfl, by omega, by rw [flp_s]; exact hp25⟩
  obtain rfl : nb = m := by omega
  refine wp_seq_k (fun K36 k36 => ?_)
  refine wp_seq_k (fun K37 k37 => ?_)
  refine gs [.det (.int .i64 ((nb : Nat) : Int)), .det (.slice (some ⟨ku, 0, none⟩) nb ccu), .det (.int .i64 nb), .det (.bool false)] [0, 1, 2, 3] [0, 0, 2, 7] (fun L => D d 0 7 ++ ([pt kx1 0, pt kx2 0, d 9, .slice (some ⟨ku, 0, none⟩) nb ccu, .int .i64 ((nb : Nat) : Int)] ++ (D d 12 85 ++ ([.int .i64 ((nb : Nat) : Int), .slice (some ⟨ku, 0, none⟩) nb ccu, .int .i64 nb, .bool false] ++ D d 101 20)))) (fun L => [(kx1, BC (tellS (stp u (begS (sby st) st.size) n) 1 g nb) 32), (kx2, BC (tellS (stp u (begS (sby st) st.size) n) 1 g nb) 32), (ku, BC (flp g nb) nb)]) hJ ⟨
    oM, oM, fun h => ⟨ob_len (p := (some ⟨ku, 0, none⟩)) (n := nb) (c := ccu) (fun _ => rfl) h rfl (fun _ => by kernel_rfl) Try.underlying29⟩, oJ .i64 .i64 ((nb : Nat) : Int) nb (h := fun w => (lssI _ _ _ w).trans (by rw [decide_eq_false (by omega)])),
    trivial⟩ (fun L25 w26 hp26 => ?_)
  refine k37 _ _ ?_
  refine wp_cond_false (by kernel_rfl) ?_
  refine wp_exit ?_
  refine then_exit ?_
  refine then_exit ?_
  refine k31 _ _ _ ?_
  refine exit_in ?_
  refine k29 _ _ ?_
  refine wp_seq_k (fun K38 k38 => ?_)
  refine gs [.det (pt kx1 0), .turn 0 (RV (askN (tellS (stp u (begS (sby st) st.size) n) 1 g nb) 2)) (BC (askS (tellS (stp u (begS (sby st) st.size) n) 1 g nb) 2) 32), .det (pt kx2 0), .turn 1 (RV (askN (tellS (stp u (begS (sby st) st.size) n) 1 g nb) 2)) (BC (askS (tellS (stp u (begS (sby st) st.size) n) 1 g nb) 2) 32), .det (.bool true), .det (.bool true), .det (pt kx1 0), .det (VB (askS (tellS (stp u (begS (sby st) st.size) n) 1 g nb) 2) 32), .det (pt kx2 0), .det (VB (askS (tellS (stp u (begS (sby st) st.size) n) 1 g nb) 2) 32), .det (.bool true), .det (.bool true), .det (.bool true)] [0, 1, 2, 3, 4, 5, 6, 7, 8, 9, 10, 11, 12] [0, 1, 0, 7, 15, 31, 63, 127, 63, 511, 1023, 2047, 4095] (fun L => D d 0 6 ++ ([.bool true, pt kx1 0, pt kx2 0, d 9, .slice (some ⟨ku, 0, none⟩) nb ccu, .int .i64 ((nb : Nat) : Int)] ++ (D d 12 85 ++ ([.int .i64 ((nb : Nat) : Int), .slice (some ⟨ku, 0, none⟩) nb ccu, .int .i64 nb, .bool false] ++ (D d 101 8 ++ [pt kx1 0, RV (askN (tellS (stp u (begS (sby st) st.size) n) 1 g nb) 2), pt kx2 0, RV (askN (tellS (stp u (begS (sby st) st.size) n) 1 g nb) 2), .bool true, .bool true, pt kx1 0, VB (askS (tellS (stp u (begS (sby st) st.size) n) 1 g nb) 2) 32, pt kx2 0, VB (askS (tellS (stp u (begS (sby st) st.size) n) 1 g nb) 2) 32, .bool true, .bool true]))))) (fun L => [(kx1, BC (askS (tellS (stp u (begS (sby st) st.size) n) 1 g nb) 2) 32), (kx2, BC (askS (tellS (stp u (begS (sby st) st.size) n) 1 g nb) 2) 32), (ku, BC (flp g nb) nb)]) hp26 ⟨
    oM, oTu (fun w hb hx => askP kx1 (tellS (stp u (begS (sby st) st.size) n) 1 g nb) 2 w hx (By.tellS _ _ _ _) (by decide)), oM, oTu (fun w hb hx => askP kx2 (tellS (stp u (begS (sby st) st.size) n) 1 g nb) 2 w hx (By.tellS _ _ _ _) (by decide)),
    oW (u := RV (askN (tellS (stp u (begS (sby st) st.size) n) 1 g nb) 2)) (v := RV (askN (tellS (stp u (begS (sby st) st.size) n) 1 g nb) 2)) (r := .bool true) (fun w => guardR _ _ _ _ _ w) (fun w => eqlRs _ w),
    oM, oM, oCT (fun w hs => stateP (hs.base 0 _ _ rfl (by kernel_rfl))), oM, oCT (fun w hs => stateP (hs.base 1 _ _ rfl (by kernel_rfl))), oW (u := VB (askS (tellS (stp u (begS (sby st) st.size) n) 1 g nb) 2) 32) (v := VB (askS (tellS (stp u (begS (sby st) st.size) n) 1 g nb) 2) 32) (r := .bool true) (fun w => guardA _ _ _ _ _ w) (fun w => eqlA _ w),
    oP, oA,
    trivial⟩ (fun L26 w27 hp27 => ?_)
  refine k38 _ _ ?_
  refine wp_ret ?_
  refine bodyPost_ret (v := .bool true) ?_ rfl ?_
  · exact res_t rfl (by kernel_rfl) _
  · exact ⟨rfl, hp27.bel⟩
theorem talkSame_walk (st : ByteArray) (u : Tur) (p : Option Addr) (n c : Nat) (q : Option Addr) (nb cb : Nat) (g : Nat → Int) (w : World) (hT : TuAt w p n u) (hnc : nb ≤ cb) (hq : AtK .u8 w q nb g) (hg : ∀ j, j < nb → 0 ≤ g j ∧ g j < 256) : Calls Try.prog 4 #[.string st, .slice p n c, .slice q nb cb] w (Ret (.bool true) w) := by
  by_cases hs : st.size ≤ 100
  · rcases light_or u n with ⟨hn, hl⟩ | hn | ⟨hn, j0, hj, hl, hx⟩
    · by_cases hnb : nb ≤ 200
      · exact talkSame3 st u p n c q nb cb g w hs hT hn hl hnb hnc hq hg
      · exact talkSame2 st u p n c q nb cb w hs hT hn hl (by omega)
    · exact talkSame1 st p n c q nb cb w hs fun x _ => lightF p n c x hn
    · exact talkSame1 st p n c q nb cb w hs fun x hb => lightG u p n c j0 x (hT.up hb) hn hj hl hx
  · exact talkSame0 st p n c q nb cb w (by omega)
end Go.Proofs.Ytccidmogamnihaa.fpn

/- What texts, bytes and turns that come in give the walks of law 13. -/
namespace Go.Proofs.Ytccidmogamnihaa
open Go.ChangeShapes Go.WideShapes Go.ChangeAt Go.RowKit Pl
set_option maxRecDepth 4000
set_option linter.unusedVariables false

theorem IsRow.bytes {w : World} {a : Option Addr} {len cap : Nat} {zs : List Int} (h : IsRow .u8 w a len cap zs) : ∀ j, j < len → 0 ≤ zs.getD j 0 ∧ zs.getD j 0 < 256 := fun j hj => by
  rcases h with ⟨rfl, rfl, rfl, rfl⟩ | ⟨x, rfl, h1, h2, h3, h4, h5⟩
  · omega
  · have hm : zs.getD j 0 ∈ zs := by
      rw [List.getD_eq_getElem?_getD, List.getElem?_eq_getElem (by omega)]
      exact List.getElem_mem _
    have := bounds_u8 (h5 _ hm)
    omega
theorem row_bytes {H : Type} {enc : TypeId × Value → H} {W : World} {cs : List Value} {fuel : Nat} {x : DataW H × List MemPlace} (hf : DataW.trod enc Try.prog W 0 (fun _ => true) true fuel 29 cs = some x) : ∃ q n c zs, cs = [.slice q n c] ∧ IsRow .u8 W q n c zs := by
  rcases open_ints Try.underlying29 Try.underlying5 (by kernel_rfl) hf with ⟨hcs, _⟩ | ⟨x, l, c, zs, hcs, _, hl, hm, hz, _, hcell, hwz⟩
  · exact ⟨none, 0, 0, [], hcs, .inl ⟨rfl, rfl, rfl, rfl⟩⟩
  · exact ⟨some x, l, c, zs, hcs, .inr ⟨_, rfl, hl, hm, by simpa using hz, hcell, hwz⟩⟩
theorem cellsTu : Try.prog.cellsOf 31 = 3 := by kernel_rfl
theorem cellsB1 : Try.prog.cellsOf 4 = 1 := by kernel_rfl
theorem cellsY1 : Try.prog.cellsOf 5 = 1 := by kernel_rfl
theorem cellsYS1 : Try.prog.cellsOf 29 = 1 := by kernel_rfl
theorem row_turn {H : Type} {enc : TypeId × Value → H} {W : World} {cs : List Value} {fuel : Nat} {x : DataW H × List MemPlace} (hf : DataW.trod enc Try.prog W 0 (fun _ => true) true fuel 31 cs = some x) :
    ∃ (b : Bool) (t : Int) (q : Option Addr) (n c : Nat) (zs : List Int), cs = [.bool b, .int .u8 t, .slice q n c] ∧ (Lit.int .u8 t).wf = true ∧ IsRow .u8 W q n c zs := by
  obtain ⟨y0, y1, y2, m, _, hl, h0, h1, h2⟩ := Go.Deep.trod_struct3 Try.underlying31 hf
  rw [cellsTu] at hl
  obtain ⟨c0, c1, c2, rfl⟩ : ∃ c0 c1 c2, cs = [c0, c1, c2] := by
    match cs, hl with
    | [c0, c1, c2], _ => exact ⟨c0, c1, c2, rfl⟩
  obtain ⟨b, e0, _⟩ := DataW.trod_bool Try.underlying4 h0
  obtain ⟨t, e1, _, hw⟩ := DataW.trod_int Try.underlying5 h1
  obtain ⟨q, n, c, zs, e2, hr⟩ := row_bytes h2
  refine ⟨b, t, q, n, c, zs, ?_, hw, hr⟩
  simp only [cellsB1, cellsY1, cellsYS1, List.drop_zero, List.take_succ_cons, List.take_zero, List.drop_succ_cons] at e0 e1 e2
  injection e0 with e0
  injection e1 with e1
  injection e2 with e2
  rw [e0, e1, e2]
theorem open_tus {H : Type} {enc : TypeId × Value → H} {W : World} {a : Option Addr} {len cap : Nat} {d : DataW H} {p : List MemPlace}
    (h0 : DataW.Trod enc Try.prog W 0 (fun _ => true) true 22 (.slice a len cap) d p) : ∃ u : fpn.Tur, fpn.TuAt W a len u := by
  obtain ⟨fuel, hf⟩ := h0
  rcases Go.Deep.open_slice Try.underlying22 hf with ⟨hcs, _⟩ | ⟨x, len', cap', m, k, D, Q, hcs, _, hl, hm, hmm, _, hx⟩
  · simp [Value.cells] at hcs
    obtain ⟨rfl, rfl, rfl⟩ := hcs
    exact ⟨⟨fun _ => false, fun _ => 0, fun _ => none, fun _ => 0, fun _ => 0, fun _ _ => 0⟩, fun i hi => absurd hi (by omega), fun i hi => absurd hi (by omega), fun i hi => absurd hi (by omega), fun i hi => absurd hi (by omega), fun i hi => absurd hi (by omega)⟩
  · simp [Value.cells] at hcs
    obtain ⟨rfl, rfl, rfl⟩ := hcs
    have hlm : len ≤ m := by rw [hmm]; simp; omega
    obtain ⟨f, hfn⟩ := Go.Deep.choose_lt (α := Bool × Int × Option Addr × Nat × Nat × List Int) (p := fun i z => (Lit.int .u8 z.2.1).wf = true ∧ IsRow .u8 W z.2.2.1 z.2.2.2.1 z.2.2.2.2.1 z.2.2.2.2.2 ∧ W.cell? (x.add (i * 3)) = some (.bool z.1) ∧ W.cell? (x.add (i * 3 + 1)) = some (.int .u8 z.2.1) ∧ W.cell? (x.add (i * 3 + 2)) = some (.slice z.2.2.1 z.2.2.2.1 z.2.2.2.2.1)) (n := len) (fun i hi => by
      obtain ⟨cs', h1, h2⟩ := hx i (by omega)
      rw [cellsTu] at h1
      obtain ⟨b, t, q, n, c, zs, rfl, hw, hr⟩ := row_turn h2
      obtain ⟨_, _, h3⟩ := World.cells?_some h1
      refine ⟨(b, t, q, n, c, zs), hw, hr, ?_, ?_, ?_⟩
      · have := h3 0 (by decide)
        rw [Go.Deep.add_add] at this
        exact this
      · have := h3 1 (by decide)
        rw [Go.Deep.add_add] at this
        exact this
      · have := h3 2 (by decide)
        rw [Go.Deep.add_add] at this
        exact this)
    refine ⟨⟨fun i => (f i).1, fun i => (f i).2.1, fun i => (f i).2.2.1, fun i => (f i).2.2.2.1, fun i => (f i).2.2.2.2.1, fun i j => (f i).2.2.2.2.2.getD j 0⟩, fun i hi => ?_, fun i hi => (hfn i hi).2.1.at.1, fun i hi => ?_, fun i hi => (hfn i hi).2.1.at.2.1, fun i hi => (hfn i hi).2.1.bytes⟩
    · obtain ⟨_, _, h3, h4, h5⟩ := hfn i hi
      have z3 := (hfn 0 (by omega)).2.2.1
      obtain ⟨b, off, mm⟩ := x
      obtain rfl : mm = none := by
        have e0 : (⟨b, off, mm⟩ : Addr).add (0 * 3) = ⟨b, off, mm⟩ := by unfold Addr.add; simp
        rw [e0] at z3
        cases mm with
        | none => rfl
        | some y =>
          simp [World.cell?] at z3
          split at z3 <;> cases z3
      rw [Addr.add_mid] at h3 h4 h5
      exact ⟨b, off, rfl, h3, by rw [Nat.add_assoc]; exact h4, by rw [Nat.add_assoc]; exact h5⟩
    · have := bounds_u8 (hfn i hi).1
      show 0 ≤ (f i).2.1 ∧ (f i).2.1 < 256
      exact ⟨by omega, by omega⟩
end Go.Proofs.Ytccidmogamnihaa
