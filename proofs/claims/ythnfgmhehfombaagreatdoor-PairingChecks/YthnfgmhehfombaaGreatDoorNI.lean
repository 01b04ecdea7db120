/- UF. -/
import Derived.Test.YthnfgmhehfombaaGreatDoorNH
import Derived.Test.YthnfgmhehfombaaGreatDoorQA
import Derived.Test.YthnfgmhehfombaaGreatDoorGN
/- PairingChecks walked. -/
namespace Go.Proofs.YthnfgmhehfombaaGreatDoor.fpn
open Go.RowKit Pl EC
set_option linter.unusedVariables false
set_option linter.unusedSimpArgs false
set_option maxRecDepth 4000

set_option maxHeartbeats 4000000 in
theorem checks0 {G : World → Prop} (K : PairK G) (R : RefK) (g1 : Pt F) (g2 : Pt F2) (a0 a1 : Option Addr) (l0 l1 : List Nat) (cap0 cap1 : Nat) (ft : Bool) (w : World) (hg : G w) (hg1 : g1 = gen1) (hg2 : g2 = gen2) (h1 : On (4 : F) g1) (h2 : On b2 g2) (h5 : 3 < l0.length) : Calls Tryz.prog 3 #[.slice a0 l0.length cap0, .slice a1 l1.length cap1, .bool ft] w (Ret (.bool true) w) := by
  have hp0 := Heap.start w
  go_enter Tryz.func3, Tryz.ntmps3
  refine wp_seq_k (fun K1 k1 => ?_)
  refine gsD [.det (.bool false)] [0] [0] (fun L d => [.slice a0 l0.length cap0] ++ D d 1 83) (fun L => []) hp0 ⟨
    oA,
    trivial⟩ (fun L0 _ w1 hp1 => ?_)
  refine k1 _ _ ?_
  refine wp_seq_k (fun K2 k2 => ?_)
  refine wp_seq_k (fun K3 k3 => ?_)
  refine gsD [.det (.bool true), .det (.bool false)] [0, 1] [0, 1] (fun L d => [.slice a0 l0.length cap0] ++ (D d 1 10 ++ ([.bool false] ++ D d 12 72))) (fun L => []) hp1 ⟨
    oC K.stay hg (begun11 K R), oN,
    trivial⟩ (fun L1 _ w2 hp2 => ?_)
  refine k3 _ _ ?_
  refine wp_cond_false (by kernel_rfl) ?_
  refine skips ?_
  refine k2 _ _ ?_
  refine wp_seq_k (fun K4 k4 => ?_)
  refine wp_seq_k (fun K5 k5 => ?_)
  refine gsD [.det (.slice a0 l0.length cap0), .det (.int .i64 l0.length), .det (.bool true), .det (.bool true), .det undef, .det undef, .det undef, .det (.bool true)] [0, 1, 2, 3, 4, 5, 6, 7] [0, 1, 3, 7, 15, 31, 63, 127] (fun L d => D d 0 19 ++ ([.bool true] ++ D d 20 64)) (fun L => []) hp2 ⟨
    oM, fun h => ⟨ob_len (p := a0) (n := l0.length) (c := cap0) (fun _ => rfl) h rfl (fun _ => by kernel_rfl) Tryz.underlying22⟩, oJ .i64 .i64 l0.length 3 (h := fun w => (gtrI _ _ _ w).trans (by rw [decide_eq_true (by omega)])),
    oM, oS, oS, oS, oP,
    trivial⟩ (fun L2 _ w3 hp3 => ?_)
  refine k5 _ _ ?_
  refine wp_cond_true (by kernel_rfl) ?_
  refine wp_seq_k (fun K6 k6 => ?_)
  refine gsD [.det (.bool true)] [0] [0] (fun L d => D d 0 6 ++ ([.bool true] ++ D d 7 77)) (fun L => []) hp3 ⟨
    oA,
    trivial⟩ (fun L3 _ w4 hp4 => ?_)
  refine k6 _ _ ?_
  refine wp_ret ?_
  refine bodyPost_ret (v := .bool true) ?_ rfl ?_
  · exact res_t rfl (by kernel_rfl) _
  · exact ⟨rfl, hp4.bel⟩
set_option maxHeartbeats 4000000 in
theorem checks1 {G : World → Prop} (K : PairK G) (R : RefK) (g1 : Pt F) (g2 : Pt F2) (a0 a1 : Option Addr) (l0 l1 : List Nat) (cap0 cap1 : Nat) (ft : Bool) (w : World) (hg : G w) (hg1 : g1 = gen1) (hg2 : g2 = gen2) (h1 : On (4 : F) g1) (h2 : On b2 g2) (h5 : l0.length ≤ 3) (h6 : 3 < l1.length) : Calls Tryz.prog 3 #[.slice a0 l0.length cap0, .slice a1 l1.length cap1, .bool ft] w (Ret (.bool true) w) := by
  have hp0 := Heap.start w
  go_enter Tryz.func3, Tryz.ntmps3
  refine wp_seq_k (fun K1 k1 => ?_)
  refine gsD [.det (.bool false)] [0] [0] (fun L d => [.slice a0 l0.length cap0, .slice a1 l1.length cap1] ++ D d 2 82) (fun L => []) hp0 ⟨
    oA,
    trivial⟩ (fun L0 _ w1 hp1 => ?_)
  refine k1 _ _ ?_
  refine wp_seq_k (fun K2 k2 => ?_)
  refine wp_seq_k (fun K3 k3 => ?_)
  refine gsD [.det (.bool true), .det (.bool false)] [0, 1] [0, 1] (fun L d => [.slice a0 l0.length cap0, .slice a1 l1.length cap1] ++ (D d 2 9 ++ ([.bool false] ++ D d 12 72))) (fun L => []) hp1 ⟨
    oC K.stay hg (begun11 K R), oN,
    trivial⟩ (fun L1 _ w2 hp2 => ?_)
  refine k3 _ _ ?_
  refine wp_cond_false (by kernel_rfl) ?_
  refine skips ?_
  refine k2 _ _ ?_
  refine wp_seq_k (fun K4 k4 => ?_)
  refine wp_seq_k (fun K5 k5 => ?_)
  refine gsD [.det (.slice a0 l0.length cap0), .det (.int .i64 l0.length), .det (.bool false), .det (.bool false), .det (.slice a1 l1.length cap1), .det (.int .i64 l1.length), .det (.bool true), .det (.bool true)] [0, 1, 2, 3, 4, 5, 6, 7] [0, 1, 3, 7, 15, 31, 63, 127] (fun L d => D d 0 19 ++ ([.bool true] ++ D d 20 64)) (fun L => []) hp2 ⟨
    oM, fun h => ⟨ob_len (p := a0) (n := l0.length) (c := cap0) (fun _ => rfl) h rfl (fun _ => by kernel_rfl) Tryz.underlying22⟩, oJ .i64 .i64 l0.length 3 (h := fun w => (gtrI _ _ _ w).trans (by rw [decide_eq_false (by omega)])),
    oM, oM, fun h => ⟨ob_len (p := a1) (n := l1.length) (c := cap1) (fun _ => by kernel_rfl) h rfl (fun _ => by kernel_rfl) Tryz.underlying22⟩, oJ .i64 .i64 l1.length 3 (h := fun w => (gtrI _ _ _ w).trans (by rw [decide_eq_true (by omega)])),
    oP,
    trivial⟩ (fun L2 _ w3 hp3 => ?_)
  refine k5 _ _ ?_
  refine wp_cond_true (by kernel_rfl) ?_
  refine wp_seq_k (fun K6 k6 => ?_)
  refine gsD [.det (.bool true)] [0] [0] (fun L d => D d 0 6 ++ ([.bool true] ++ D d 7 77)) (fun L => []) hp3 ⟨
    oA,
    trivial⟩ (fun L3 _ w4 hp4 => ?_)
  refine k6 _ _ ?_
  refine wp_ret ?_
  refine bodyPost_ret (v := .bool true) ?_ rfl ?_
  · exact res_t rfl (by kernel_rfl) _
  · exact ⟨rfl, hp4.bel⟩
theorem take_nextZ {l : List (Nat × Nat)} {i : Nat} {z : Nat × Nat} (hx : l[i]? = some z) : l.take (i + 1) = l.take i ++ [z] := by rw [List.take_add_one, hx]; rfl
theorem all_nextZ {l : List (Nat × Nat)} {i r : Nat} {z : Nat × Nat} (hx : l[i]? = some z) (h : ∀ n ∈ l.take i, n.1 < r ∧ n.2 < r) (hr : z.1 < r ∧ z.2 < r) : ∀ n ∈ l.take (i + 1), n.1 < r ∧ n.2 < r := fun n hn => by
  rw [take_nextZ hx] at hn
  rcases List.mem_append.1 hn with h' | h'
  · exact h n h'
  · rw [List.mem_singleton.1 h']; exact hr
def chkI (a0 a1 : Option Addr) (l0 l1 : List Nat) (cap0 cap1 : Nat) (ft : Bool) (b8 B n0 : Nat) (w : World) : Nat → Act → World → Prop := fun L a' w' => ∃ (i : Nat) (v u3 u4 u5 u10 u11 u12 u13 u14 u15 u16 u17 u18 u19 u20 u21 u22 u23 u24 u25 u26 u27 u28 u29 u30 u31 u32 u33 u34 u35 u36 u37 u38 u39 u40 u41 u42 u43 u44 u45 u46 u47 u48 u49 u50 u51 u52 u53 u54 u55 u56 u57 u58 u59 u60 u61 u62 u63 u64 u65 u66 u67 u68 u69 u70 u71 u72 u73 u74 u75 u76 u77 u78 u79 u80 u81 u82 u83 : Value),
  a' = { tmps := #[.slice a0 l0.length cap0, .slice a1 l1.length cap1, .bool ft, u3, u4, u5, .bool false, v, .pointer (some ⟨b8, 0, none⟩), .int .i64 ((i : Nat) : Int), u10, u11, u12, u13, u14, u15, u16, u17, u18, u19, u20, u21, u22, u23, u24, u25, u26, u27, u28, u29, u30, u31, u32, u33, u34, u35, u36, u37, u38, u39, u40, u41, u42, u43, u44, u45, u46, u47, u48, u49, u50, u51, u52, u53, u54, u55, u56, u57, u58, u59, u60, u61, u62, u63, u64, u65, u66, u67, u68, u69, u70, u71, u72, u73, u74, u75, u76, u77, u78, u79, u80, u81, u82, u83], defers := [] } ∧ i + L = n0 ∧ (∀ n ∈ (l0.zip l1).take i, n.1 < ordR ∧ n.2 < ordR) ∧ OwnZ w' B v ((l0.zip l1).take i) ∧ Box w' b8 (RC (ssum ((l0.zip l1).take i))) ∧ Below w.heap.size w w' ∧ B ≤ w'.heap.size
set_option maxHeartbeats 4000000 in
theorem checks2 {G : World → Prop} (K : PairK G) (R : RefK) (g1 : Pt F) (g2 : Pt F2) (a0 a1 : Option Addr) (l0 l1 : List Nat) (cap0 cap1 : Nat) (w : World) (hg : G w) (hg1 : g1 = gen1) (hg2 : g2 = gen2) (h1 : On (4 : F) g1) (h2 : On b2 g2) (h5 : l0.length ≤ 3) (h6 : l1.length ≤ 3) (hk0 : ∀ n ∈ l0, n < 2 ^ 256) (hk1 : ∀ n ∈ l1, n < 2 ^ 256) (hA0 : AtR w a0 l0) (hA1 : AtR w a1 l1) : Calls Tryz.prog 3 #[.slice a0 l0.length cap0, .slice a1 l1.length cap1, .bool true] w (Ret (.bool true) w) := by
  have hp0 := Heap.start w
  go_enter Tryz.func3, Tryz.ntmps3
  refine wp_seq_k (fun K1 k1 => ?_)
  refine gs [.det (.bool false)] [0] [0] (fun L => [.slice a0 l0.length cap0, .slice a1 l1.length cap1, .bool true, undef, undef, undef, .bool false] ++ U 77) (fun L => []) hp0 ⟨
    oA,
    trivial⟩ (fun L0 w1 hp1 => ?_)
  refine k1 _ _ ?_
  refine wp_seq_k (fun K2 k2 => ?_)
  refine wp_seq_k (fun K3 k3 => ?_)
  refine gs [.det (.bool true), .det (.bool false)] [0, 1] [0, 1] (fun L => [.slice a0 l0.length cap0, .slice a1 l1.length cap1, .bool true, undef, undef, undef, .bool false, undef, undef, undef, .bool true, .bool false] ++ U 72) (fun L => []) hp1 ⟨
    oC K.stay hg (begun11 K R), oN,
    trivial⟩ (fun L1 w2 hp2 => ?_)
  refine k3 _ _ ?_
  refine wp_cond_false (by kernel_rfl) ?_
  refine skips ?_
  refine k2 _ _ ?_
  refine wp_seq_k (fun K4 k4 => ?_)
  refine wp_seq_k (fun K5 k5 => ?_)
  refine gs [.det (.slice a0 l0.length cap0), .det (.int .i64 l0.length), .det (.bool false), .det (.bool false), .det (.slice a1 l1.length cap1), .det (.int .i64 l1.length), .det (.bool false), .det (.bool false)] [0, 1, 2, 3, 4, 5, 6, 7] [0, 1, 3, 7, 15, 31, 63, 127] (fun L => [.slice a0 l0.length cap0, .slice a1 l1.length cap1, .bool true, undef, undef, undef, .bool false, undef, undef, undef, .bool true, .bool false, .slice a0 l0.length cap0, .int .i64 l0.length, .bool false, .bool false, .slice a1 l1.length cap1, .int .i64 l1.length, .bool false, .bool false] ++ U 64) (fun L => []) hp2 ⟨
    oM, fun h => ⟨ob_len (p := a0) (n := l0.length) (c := cap0) (fun _ => rfl) h rfl (fun _ => by kernel_rfl) Tryz.underlying22⟩, oJ .i64 .i64 l0.length 3 (h := fun w => (gtrI _ _ _ w).trans (by rw [decide_eq_false (by omega)])),
    oM, oM, fun h => ⟨ob_len (p := a1) (n := l1.length) (c := cap1) (fun _ => by kernel_rfl) h rfl (fun _ => by kernel_rfl) Tryz.underlying22⟩, oJ .i64 .i64 l1.length 3 (h := fun w => (gtrI _ _ _ w).trans (by rw [decide_eq_false (by omega)])),
    oP,
    trivial⟩ (fun L2 w3 hp3 => ?_)
  refine k5 _ _ ?_
  refine wp_cond_false (by kernel_rfl) ?_
  refine skips ?_
  refine k4 _ _ ?_
  refine wp_seq_k (fun K6 k6 => ?_)
  refine gs [.det (.slice none 0 0)] [0] [0] (fun L => [.slice a0 l0.length cap0, .slice a1 l1.length cap1, .bool true, undef, undef, undef, .bool false, .slice none 0 0, undef, undef, .bool true, .bool false, .slice a0 l0.length cap0, .int .i64 l0.length, .bool false, .bool false, .slice a1 l1.length cap1, .int .i64 l1.length, .bool false, .bool false] ++ U 64) (fun L => []) hp3 ⟨
    oA,
    trivial⟩ (fun L3 w4 hp4 => ?_)
  refine k6 _ _ ?_
  refine wp_seq_k (fun K7 k7 => ?_)
  refine gs [.alloc (RC 0)] [0] [0] (fun L => [.slice a0 l0.length cap0, .slice a1 l1.length cap1, .bool true, undef, undef, undef, .bool false, .slice none 0 0, L.p 0, undef, .bool true, .bool false, .slice a0 l0.length cap0, .int .i64 l0.length, .bool false, .bool false, .slice a1 l1.length cap1, .int .i64 l1.length, .bool false, .bool false] ++ U 64) (fun L => [(L.b 0, RC 0)]) hp4 ⟨
    oZ rR,
    trivial⟩ (fun L4 w5 hp5 => ?_)
  refine k7 _ _ ?_
  refine wp_seq_k (fun K8 k8 => ?_)
  refine wp_seq_k (fun K9 k9 => ?_)
  refine gs [.det (.int .i64 0)] [0] [0] (fun L => [.slice a0 l0.length cap0, .slice a1 l1.length cap1, .bool true, undef, undef, undef, .bool false, .slice none 0 0, L4.p 0, .int .i64 0, .bool true, .bool false, .slice a0 l0.length cap0, .int .i64 l0.length, .bool false, .bool false, .slice a1 l1.length cap1, .int .i64 l1.length, .bool false, .bool false] ++ U 64) (fun L => [(L4.b 0, RC 0)]) hp5 ⟨
    oA,
    trivial⟩ (fun L5 w6 hp6 => ?_)
  refine k9 _ _ ?_
  refine wp_block_k (fun K10 k10 => ?_)
  obtain ⟨hbw, hbx0⟩ := hp6.bound 0 rfl
  obtain ⟨n0, hmin⟩ : ∃ n0, min l0.length l1.length = n0 := ⟨_, rfl⟩
  obtain ⟨B, hBe⟩ : ∃ B, B = w6.heap.size := ⟨_, rfl⟩
  have hbB : (L4.b 0) < B := by rw [hBe]; exact hbx0.lt
  have hwB : w.heap.size ≤ B := by rw [hBe]; exact hp6.bel.size
  have hwb : w.heap.size ≤ (L4.b 0) := hbw
  have hgw := hg
  refine wp_loop_ghost (chkI a0 a1 l0 l1 cap0 cap1 true (L4.b 0) B n0 w) n0 ⟨0, .slice none 0 0, undef, undef, undef, .bool true, .bool false, .slice a0 l0.length cap0, .int .i64 l0.length, .bool false, .bool false, .slice a1 l1.length cap1, .int .i64 l1.length, .bool false, .bool false, undef, undef, undef, undef, undef, undef, undef, undef, undef, undef, undef, undef, undef, undef, undef, undef, undef, undef, undef, undef, undef, undef, undef, undef, undef, undef, undef, undef, undef, undef, undef, undef, undef, undef, undef, undef, undef, undef, undef, undef, undef, undef, undef, undef, undef, undef, undef, undef, undef, undef, undef, undef, undef, undef, undef, undef, undef, undef, undef, undef, undef, undef, undef, undef, rfl, Nat.zero_add _, fun n hn => (by cases hn), World.ownsRow_nil _ _ _ _, hbx0, hp6.bel, Nat.le_of_eq hBe⟩ ?_
  rintro L a' W ⟨i, v, u3, u4, u5, u10, u11, u12, u13, u14, u15, u16, u17, u18, u19, u20, u21, u22, u23, u24, u25, u26, u27, u28, u29, u30, u31, u32, u33, u34, u35, u36, u37, u38, u39, u40, u41, u42, u43, u44, u45, u46, u47, u48, u49, u50, u51, u52, u53, u54, u55, u56, u57, u58, u59, u60, u61, u62, u63, u64, u65, u66, u67, u68, u69, u70, u71, u72, u73, u74, u75, u76, u77, u78, u79, u80, u81, u82, u83, rfl, hL, hlt, hOwn, hbx, hbel, hBs⟩
  obtain ⟨S, hS⟩ : ∃ S, S = ssum ((l0.zip l1).take i) := ⟨_, rfl⟩
  have hSR : S < ordR := by rw [hS]; exact ssum_lt _
  have hS6 := Nat.lt_trans hSR ordR_256
  rw [← hS] at hbx
  have hg := K.stay hgw hbel
  have hq := Heap.start W
  by_cases hL0 : L = 0
  rotate_left
  · skip
    have hi0 : i < l0.length := by omega
    have hi1 : i < l1.length := by omega
    obtain ⟨b, off, rfl, hRR⟩ := hA0 (by omega)
    obtain ⟨b0, off0, rfl, hSS⟩ := hA1 (by omega)
    obtain ⟨x, hx⟩ : ∃ x, l0[i]? = some x := ⟨l0[i], List.getElem?_eq_getElem hi0⟩
    obtain ⟨y, hy⟩ : ∃ y, l1[i]? = some y := ⟨l1[i], List.getElem?_eq_getElem hi1⟩
    have hx6 := hk0 x (List.mem_of_getElem? hx)
    have hy6 := hk1 y (List.mem_of_getElem? hy)
    by_cases hxr : x < ordR
    · skip
      by_cases hyr : y < ordR
      · skip
        refine wp_seq_k (fun K11 k11 => ?_)
        refine wp_seq_k (fun K12 k12 => ?_)
        refine gs [.det (.int .i64 ((i : Nat) : Int)), .det (.slice (some ⟨b, off, none⟩) l0.length cap0), .det (.int .i64 l0.length), .det (.slice (some ⟨b0, off0, none⟩) l1.length cap1), .det (.int .i64 l1.length), .det (.int .i64 ((n0 : Nat) : Int)), .det (.bool true)] [0, 1, 2, 3, 4, 5, 6] [0, 0, 2, 0, 8, 30, 63] (fun L => [.slice (some ⟨b, off, none⟩) l0.length cap0, .slice (some ⟨b0, off0, none⟩) l1.length cap1, .bool true, u3, u4, u5, .bool false, v, L4.p 0, .int .i64 ((i : Nat) : Int), u10, u11, u12, u13, u14, u15, u16, u17, u18, u19, .int .i64 ((i : Nat) : Int), .slice (some ⟨b, off, none⟩) l0.length cap0, .int .i64 l0.length, .slice (some ⟨b0, off0, none⟩) l1.length cap1, .int .i64 l1.length, .int .i64 ((n0 : Nat) : Int), .bool true, u27, u28, u29, u30, u31, u32, u33, u34, u35, u36, u37, u38, u39, u40, u41, u42, u43, u44, u45, u46, u47, u48, u49, u50, u51, u52, u53, u54, u55, u56, u57, u58, u59, u60, u61, u62, u63, u64, u65, u66, u67, u68, u69, u70, u71, u72, u73, u74, u75, u76, u77, u78, u79, u80, u81, u82, u83]) (fun L => []) hq ⟨
          oM, oM, fun h => ⟨ob_len (p := (some ⟨b, off, none⟩)) (n := l0.length) (c := cap0) (fun _ => rfl) h rfl (fun _ => by kernel_rfl) Tryz.underlying22⟩,
          oM, fun h => ⟨ob_len (p := (some ⟨b0, off0, none⟩)) (n := l1.length) (c := cap1) (fun _ => rfl) h rfl (fun _ => by kernel_rfl) Tryz.underlying22⟩,
          oMn (m := l0.length) (n := l1.length) hmin, oJ .i64 .i64 ((i : Nat) : Int) ((n0 : Nat) : Int) (h := fun w => (lssI _ _ _ w).trans (by rw [decide_eq_true (by omega)])),
          trivial⟩ (fun L6 w7 hp7 => ?_)
        refine k12 _ _ ?_
        refine wp_cond_true (by kernel_rfl) ?_
        refine skips ?_
        refine k11 _ _ ?_
        refine wp_seq_k (fun K13 k13 => ?_)
        refine wp_block_k (fun K14 k14 => ?_)
        refine wp_seq_k (fun K15 k15 => ?_)
        refine wp_seq_k (fun K16 k16 => ?_)
        refine gs [.det (.slice (some ⟨b, off, none⟩) l0.length cap0), .det (.int .i64 ((i : Nat) : Int)), .det (.pointer (some ⟨b, off + i * 4, none⟩)), .det (RV x), .det (.bool true), .det (.bool false), .det (.bool false), .det (.slice (some ⟨b0, off0, none⟩) l1.length cap1), .det (.int .i64 ((i : Nat) : Int)), .det (.pointer (some ⟨b0, off0 + i * 4, none⟩)), .det (RV y), .det (.bool true), .det (.bool false), .det (.bool false)] [0, 1, 2, 3, 4, 5, 6, 7, 8, 9, 10, 11, 12, 13] [0, 0, 3, 7, 15, 31, 63, 127, 127, 511, 1023, 2047, 4095, 8191] (fun L => [.slice (some ⟨b, off, none⟩) l0.length cap0, .slice (some ⟨b0, off0, none⟩) l1.length cap1, .bool true, u3, u4, u5, .bool false, v, L4.p 0, .int .i64 ((i : Nat) : Int), u10, u11, u12, u13, u14, u15, u16, u17, u18, u19, .int .i64 ((i : Nat) : Int), .slice (some ⟨b, off, none⟩) l0.length cap0, .int .i64 l0.length, .slice (some ⟨b0, off0, none⟩) l1.length cap1, .int .i64 l1.length, .int .i64 ((n0 : Nat) : Int), .bool true, u27, u28, .slice (some ⟨b, off, none⟩) l0.length cap0, .int .i64 ((i : Nat) : Int), .pointer (some ⟨b, off + i * 4, none⟩), RV x, .bool true, .bool false, .bool false, .slice (some ⟨b0, off0, none⟩) l1.length cap1, .int .i64 ((i : Nat) : Int), .pointer (some ⟨b0, off0 + i * 4, none⟩), RV y, .bool true, .bool false, .bool false, u43, u44, u45, u46, u47, u48, u49, u50, u51, u52, u53, u54, u55, u56, u57, u58, u59, u60, u61, u62, u63, u64, u65, u66, u67, u68, u69, u70, u71, u72, u73, u74, u75, u76, u77, u78, u79, u80, u81, u82, u83]) (fun L => []) hp7 ⟨
          oM, oM, oIS (n := l0.length) (c := cap0) i Tryz.underlying22 rR.size (by omega), oLW rR (fun L w hs => ⟨_, _, rfl, rangeR (hRR i x hx) (hbel.trans (hs.bel.mono hbel.size))⟩),
          oH (v := .bool true) (vs := #[RV x]) (fun w _ _ => by have h := mayR hx6 w; rw [decide_eq_true hxr] at h; exact h), oN, oM, oM, oM, oIS (n := l1.length) (c := cap1) i Tryz.underlying22 rR.size (by omega),
          oLW rR (fun L w hs => ⟨_, _, rfl, rangeR (hSS i y hy) (hbel.trans (hs.bel.mono hbel.size))⟩), oH (v := .bool true) (vs := #[RV y]) (fun w _ _ => by have h := mayR hy6 w; rw [decide_eq_true hyr] at h; exact h),
          oN, oP,
          trivial⟩ (fun L7 w8 hp8 => ?_)
        refine k16 _ _ ?_
        refine wp_cond_false (by kernel_rfl) ?_
        refine skips ?_
        refine k15 _ _ ?_
        refine wp_seq_k (fun K17 k17 => ?_)
        refine dT 13 [.det (v), .det (.slice (some ⟨b, off, none⟩) l0.length cap0), .det (.int .i64 ((i : Nat) : Int)), .det (.pointer (some ⟨b, off + i * 4, none⟩)), .det (RV x), .det (GV (gp (mul finv x g1))), .det (.slice (some ⟨b0, off0, none⟩) l1.length cap1), .det (.int .i64 ((i : Nat) : Int)), .det (.pointer (some ⟨b0, off0 + i * 4, none⟩)), .det (RV y), .det (T2.GV (T2.gp (mul F2.inv y g2))), .det (ZV ⟨(gp (mul finv x g1)), (T2.gp (mul F2.inv y g2))⟩), .any (isRow1 (ZC ⟨(gp (mul finv x g1)), (T2.gp (mul F2.inv y g2))⟩)), .any (fun _ _ => True), .detV 13 (fun v => v)] [0, 1, 2, 3, 4, 5, 6, 7, 8, 9, 10, 11, 12] [0, 0, 0, 6, 14, 30, 0, 0, 192, 448, 1022, 2046, 4094, 8191, 16383] (fun L => [.slice (some ⟨b, off, none⟩) l0.length cap0, .slice (some ⟨b0, off0, none⟩) l1.length cap1, .bool true, u3, u4, u5, .bool false, v, L4.p 0, .int .i64 ((i : Nat) : Int), u10, u11, u12, u13, u14, u15, u16, u17, u18, u19, .int .i64 ((i : Nat) : Int), .slice (some ⟨b, off, none⟩) l0.length cap0, .int .i64 l0.length, .slice (some ⟨b0, off0, none⟩) l1.length cap1, .int .i64 l1.length, .int .i64 ((n0 : Nat) : Int), .bool true, u27, u28, .slice (some ⟨b, off, none⟩) l0.length cap0, .int .i64 ((i : Nat) : Int), .pointer (some ⟨b, off + i * 4, none⟩), RV x, .bool true, .bool false, .bool false, .slice (some ⟨b0, off0, none⟩) l1.length cap1, .int .i64 ((i : Nat) : Int), .pointer (some ⟨b0, off0 + i * 4, none⟩), RV y, .bool true, .bool false, .bool false, v, .slice (some ⟨b, off, none⟩) l0.length cap0, .int .i64 ((i : Nat) : Int), .pointer (some ⟨b, off + i * 4, none⟩), RV x, GV (gp (mul finv x g1)), .slice (some ⟨b0, off0, none⟩) l1.length cap1, .int .i64 ((i : Nat) : Int), .pointer (some ⟨b0, off0 + i * 4, none⟩), RV y, T2.GV (T2.gp (mul F2.inv y g2)), ZV ⟨(gp (mul finv x g1)), (T2.gp (mul F2.inv y g2))⟩, L.v 12, u56, u57, u58, u59, u60, u61, u62, u63, u64, u65, u66, u67, u68, u69, u70, u71, u72, u73, u74, u75, u76, u77, u78, u79, u80, u81, u82, u83]) hp8 ⟨
      oM, oM, oM, oIS (n := l0.length) (c := cap0) i Tryz.underlying22 rR.size (by omega), oLW rR (fun L w hs => ⟨_, _, rfl, rangeR (hRR i x hx) (hbel.trans (hs.bel.mono hbel.size))⟩), oH (v := GV (gp (mul finv x g1))) (vs := #[RV x]) (fun w _ _ => law11g1 R x g1 w hx6 hg1 h1), oM, oM, oIS (n := l1.length) (c := cap1) i Tryz.underlying22 rR.size (by omega), oLW rR (fun L w hs => ⟨_, _, rfl, rangeR (hSS i y hy) (hbel.trans (hs.bel.mono hbel.size))⟩), oH (v := T2.GV (T2.gp (mul F2.inv y g2))) (vs := #[RV y]) (fun w _ _ => law11g2 R y g2 w hy6 hg2 h2), oD (buildZ01 (gp (mul finv x g1)) (T2.gp (mul F2.inv y g2))), oS2 Tryz.underlying24 rZ, trivial⟩ (fun L8 w9 hp9 ha9 => ?_)
        refine tail2 (by kernel_rfl) (wpOp_of rfl rfl (wp_appendZ (.tmp 43) (.tmp 55) rfl (v := v) (u := L8.v 12) (P := (x, y)) (by kernel_rfl) (hOwn.below hp9.bel) (by kernel_rfl) (by have h := ha9 12 _ (by decide) rfl; rw [← zp_at hg1 hg2]; exact h) (by rw [List.length_take]; omega) (Nat.le_trans hBs hp9.bel.size) (fun v2 x2 ho2 hb2 => ?_)))
        refine wpOp_of rfl rfl (wp_assign (v := v2) rfl (by kernel_rfl) ?_)
        have hbx2 := (hbx.up hp9.bel).below hb2 hbB
        have hbel2 := hbel.trans ((hp9.bel.mono hbel.size).trans (hb2.mono hwB))
        have hBs2 : B ≤ x2.heap.size := Nat.le_trans (Nat.le_trans hBs hp9.bel.size) hb2.size
        have hg := K.stay hgw hbel2
        have hq1 := Heap.start x2
        refine k17 _ _ ?_
        refine dT 11 [.det (RV S), .det (.slice (some ⟨b, off, none⟩) l0.length cap0), .det (.int .i64 ((i : Nat) : Int)), .det (.pointer (some ⟨b, off + i * 4, none⟩)), .det (RV x), .det (.slice (some ⟨b0, off0, none⟩) l1.length cap1), .det (.int .i64 ((i : Nat) : Int)), .det (.pointer (some ⟨b0, off0 + i * 4, none⟩)), .det (RV y), .det (RV (x * y % ordR)), .det (RV ((S + x * y % ordR) % ordR)), .det (.bool true)] [0, 1, 2, 3, 4, 5, 6, 7, 8, 9, 10] [0, 0, 0, 6, 14, 0, 0, 96, 224, 510, 1023, 2047] (fun L => [.slice (some ⟨b, off, none⟩) l0.length cap0, .slice (some ⟨b0, off0, none⟩) l1.length cap1, .bool true, u3, u4, u5, .bool false, v2, L4.p 0, .int .i64 ((i : Nat) : Int), u10, u11, u12, u13, u14, u15, u16, u17, u18, u19, .int .i64 ((i : Nat) : Int), .slice (some ⟨b, off, none⟩) l0.length cap0, .int .i64 l0.length, .slice (some ⟨b0, off0, none⟩) l1.length cap1, .int .i64 l1.length, .int .i64 ((n0 : Nat) : Int), .bool true, u27, u28, .slice (some ⟨b, off, none⟩) l0.length cap0, .int .i64 ((i : Nat) : Int), .pointer (some ⟨b, off + i * 4, none⟩), RV x, .bool true, .bool false, .bool false, .slice (some ⟨b0, off0, none⟩) l1.length cap1, .int .i64 ((i : Nat) : Int), .pointer (some ⟨b0, off0 + i * 4, none⟩), RV y, .bool true, .bool false, .bool false, v, .slice (some ⟨b, off, none⟩) l0.length cap0, .int .i64 ((i : Nat) : Int), .pointer (some ⟨b, off + i * 4, none⟩), RV x, GV (gp (mul finv x g1)), .slice (some ⟨b0, off0, none⟩) l1.length cap1, .int .i64 ((i : Nat) : Int), .pointer (some ⟨b0, off0 + i * 4, none⟩), RV y, T2.GV (T2.gp (mul F2.inv y g2)), ZV ⟨(gp (mul finv x g1)), (T2.gp (mul F2.inv y g2))⟩, (L8.v 12), v2, RV S, .slice (some ⟨b, off, none⟩) l0.length cap0, .int .i64 ((i : Nat) : Int), .pointer (some ⟨b, off + i * 4, none⟩), RV x, .slice (some ⟨b0, off0, none⟩) l1.length cap1, .int .i64 ((i : Nat) : Int), .pointer (some ⟨b0, off0 + i * 4, none⟩), RV y, RV (x * y % ordR), RV ((S + x * y % ordR) % ordR), u68, u69, u70, u71, u72, u73, u74, u75, u76, u77, u78, u79, u80, u81, u82, u83]) hq1 ⟨
      oG rR (fun _ w hs => (hbx2.up hs.bel).cells), oM, oM, oIS (n := l0.length) (c := cap0) i Tryz.underlying22 rR.size (by omega), oLW rR (fun L w hs => ⟨_, _, rfl, rangeR (hRR i x hx) (hbel2.trans (hs.bel.mono hbel2.size))⟩), oM, oM, oIS (n := l1.length) (c := cap1) i Tryz.underlying22 rR.size (by omega), oLW rR (fun L w hs => ⟨_, _, rfl, rangeR (hSS i y hy) (hbel2.trans (hs.bel.mono hbel2.size))⟩), oR (mulR hxr hyr), oH (v := RV ((S + x * y % ordR) % ordR)) (vs := #[RV S, RV (x * y % ordR)]) (fun w _ _ => addR hSR (Nat.mod_lt _ ordR_pos) w), trivial⟩ (fun L9 w10 hp10 ha10 => ?_)
        refine tail1 (by kernel_rfl) (wpOp_of rfl rfl (wp_storeR (cs := RC S) (new := RC ((S + x * y % ordR) % ordR)) rR rfl (by kernel_rfl) (by kernel_rfl) (by kernel_rfl) (by kernel_rfl) (by kernel_rfl) (hbx2.up hp10.bel) rfl (fun x3 hw3 hbx3 => ?_)))
        have ho3 := (ho2.below hp10.bel).wr hw3 hbB
        have hbel3 := (hbel2.trans (hp10.bel.mono hbel2.size)).trans (hw3.below hwb)
        have hBs3 : B ≤ x3.heap.size := by rw [hw3.size]; exact Nat.le_trans hBs2 hp10.bel.size
        have hq3 := Heap.start x3
        refine k14 _ _ _ ?_
        refine block_normal ?_
        refine k13 _ _ ?_
        refine gs [.det (.int .i64 ((i : Nat) : Int)), .det (.int .i64 ((i + 1 : Nat) : Int)), .det (.int .i64 ((i + 1 : Nat) : Int))] [0, 1, 2] [0, 1, 3] (fun L => [.slice (some ⟨b, off, none⟩) l0.length cap0, .slice (some ⟨b0, off0, none⟩) l1.length cap1, .bool true, u3, u4, u5, .bool false, v2, L4.p 0, .int .i64 ((i + 1 : Nat) : Int), u10, u11, u12, u13, u14, u15, u16, u17, u18, u19, .int .i64 ((i : Nat) : Int), .slice (some ⟨b, off, none⟩) l0.length cap0, .int .i64 l0.length, .slice (some ⟨b0, off0, none⟩) l1.length cap1, .int .i64 l1.length, .int .i64 ((n0 : Nat) : Int), .bool true, .int .i64 ((i : Nat) : Int), .int .i64 ((i + 1 : Nat) : Int), .slice (some ⟨b, off, none⟩) l0.length cap0, .int .i64 ((i : Nat) : Int), .pointer (some ⟨b, off + i * 4, none⟩), RV x, .bool true, .bool false, .bool false, .slice (some ⟨b0, off0, none⟩) l1.length cap1, .int .i64 ((i : Nat) : Int), .pointer (some ⟨b0, off0 + i * 4, none⟩), RV y, .bool true, .bool false, .bool false, v, .slice (some ⟨b, off, none⟩) l0.length cap0, .int .i64 ((i : Nat) : Int), .pointer (some ⟨b, off + i * 4, none⟩), RV x, GV (gp (mul finv x g1)), .slice (some ⟨b0, off0, none⟩) l1.length cap1, .int .i64 ((i : Nat) : Int), .pointer (some ⟨b0, off0 + i * 4, none⟩), RV y, T2.GV (T2.gp (mul F2.inv y g2)), ZV ⟨(gp (mul finv x g1)), (T2.gp (mul F2.inv y g2))⟩, (L8.v 12), v2, RV S, .slice (some ⟨b, off, none⟩) l0.length cap0, .int .i64 ((i : Nat) : Int), .pointer (some ⟨b, off + i * 4, none⟩), RV x, .slice (some ⟨b0, off0, none⟩) l1.length cap1, .int .i64 ((i : Nat) : Int), .pointer (some ⟨b0, off0 + i * 4, none⟩), RV y, RV (x * y % ordR), RV ((S + x * y % ordR) % ordR), u68, u69, u70, u71, u72, u73, u74, u75, u76, u77, u78, u79, u80, u81, u82, u83]) (fun L => []) hq3 ⟨
          oM, oJ .i64 .i64 ((i : Nat) : Int) 1 (h := fun w => add1N _ i (by omega) w), oA,
          trivial⟩ (fun L10 w11 hp11 => ?_)
        have hz : (l0.zip l1)[i]? = some (x, y) := List.getElem?_zip_eq_some.2 ⟨hx, hy⟩
        exact ⟨L - 1, by omega, i + 1, v2, u3, u4, u5, u10, u11, u12, u13, u14, u15, u16, u17, u18, u19, .int .i64 ((i : Nat) : Int), .slice (some ⟨b, off, none⟩) l0.length cap0, .int .i64 l0.length, .slice (some ⟨b0, off0, none⟩) l1.length cap1, .int .i64 l1.length, .int .i64 ((n0 : Nat) : Int), .bool true, .int .i64 ((i : Nat) : Int), .int .i64 ((i + 1 : Nat) : Int), .slice (some ⟨b, off, none⟩) l0.length cap0, .int .i64 ((i : Nat) : Int), .pointer (some ⟨b, off + i * 4, none⟩), RV x, .bool true, .bool false, .bool false, .slice (some ⟨b0, off0, none⟩) l1.length cap1, .int .i64 ((i : Nat) : Int), .pointer (some ⟨b0, off0 + i * 4, none⟩), RV y, .bool true, .bool false, .bool false, v, .slice (some ⟨b, off, none⟩) l0.length cap0, .int .i64 ((i : Nat) : Int), .pointer (some ⟨b, off + i * 4, none⟩), RV x, GV (gp (mul finv x g1)), .slice (some ⟨b0, off0, none⟩) l1.length cap1, .int .i64 ((i : Nat) : Int), .pointer (some ⟨b0, off0 + i * 4, none⟩), RV y, T2.GV (T2.gp (mul F2.inv y g2)), ZV ⟨(gp (mul finv x g1)), (T2.gp (mul F2.inv y g2))⟩, (L8.v 12), v2, RV S, .slice (some ⟨b, off, none⟩) l0.length cap0, .int .i64 ((i : Nat) : Int), .pointer (some ⟨b, off + i * 4, none⟩), RV x, .slice (some ⟨b0, off0, none⟩) l1.length cap1, .int .i64 ((i : Nat) : Int), .pointer (some ⟨b0, off0 + i * 4, none⟩), RV y, RV (x * y % ordR), RV ((S + x * y % ordR) % ordR), u68, u69, u70, u71, u72, u73, u74, u75, u76, u77, u78, u79, u80, u81, u82, u83, by kernel_rfl, by omega, all_nextZ hz hlt ⟨hxr, hyr⟩, by rw [take_nextZ hz]; exact ho3.below hp11.bel, by rw [← ssum_next hz, ← hS]; exact hbx3.up hp11.bel, hbel3.trans (hp11.bel.mono hbel3.size), Nat.le_trans hBs3 hp11.bel.size⟩
      · skip
        refine wp_seq_k (fun K18 k18 => ?_)
        refine wp_seq_k (fun K19 k19 => ?_)
        refine gs [.det (.int .i64 ((i : Nat) : Int)), .det (.slice (some ⟨b, off, none⟩) l0.length cap0), .det (.int .i64 l0.length), .det (.slice (some ⟨b0, off0, none⟩) l1.length cap1), .det (.int .i64 l1.length), .det (.int .i64 ((n0 : Nat) : Int)), .det (.bool true)] [0, 1, 2, 3, 4, 5, 6] [0, 0, 2, 0, 8, 30, 63] (fun L => [.slice (some ⟨b, off, none⟩) l0.length cap0, .slice (some ⟨b0, off0, none⟩) l1.length cap1, .bool true, u3, u4, u5, .bool false, v, L4.p 0, .int .i64 ((i : Nat) : Int), u10, u11, u12, u13, u14, u15, u16, u17, u18, u19, .int .i64 ((i : Nat) : Int), .slice (some ⟨b, off, none⟩) l0.length cap0, .int .i64 l0.length, .slice (some ⟨b0, off0, none⟩) l1.length cap1, .int .i64 l1.length, .int .i64 ((n0 : Nat) : Int), .bool true, u27, u28, u29, u30, u31, u32, u33, u34, u35, u36, u37, u38, u39, u40, u41, u42, u43, u44, u45, u46, u47, u48, u49, u50, u51, u52, u53, u54, u55, u56, u57, u58, u59, u60, u61, u62, u63, u64, u65, u66, u67, u68, u69, u70, u71, u72, u73, u74, u75, u76, u77, u78, u79, u80, u81, u82, u83]) (fun L => []) hq ⟨
          oM, oM, fun h => ⟨ob_len (p := (some ⟨b, off, none⟩)) (n := l0.length) (c := cap0) (fun _ => rfl) h rfl (fun _ => by kernel_rfl) Tryz.underlying22⟩,
          oM, fun h => ⟨ob_len (p := (some ⟨b0, off0, none⟩)) (n := l1.length) (c := cap1) (fun _ => rfl) h rfl (fun _ => by kernel_rfl) Tryz.underlying22⟩,
          oMn (m := l0.length) (n := l1.length) hmin, oJ .i64 .i64 ((i : Nat) : Int) ((n0 : Nat) : Int) (h := fun w => (lssI _ _ _ w).trans (by rw [decide_eq_true (by omega)])),
          trivial⟩ (fun L11 w12 hp12 => ?_)
        refine k19 _ _ ?_
        refine wp_cond_true (by kernel_rfl) ?_
        refine skips ?_
        refine k18 _ _ ?_
        refine wp_seq_k (fun K20 k20 => ?_)
        refine wp_block_k (fun K21 k21 => ?_)
        refine wp_seq_k (fun K22 k22 => ?_)
        refine wp_seq_k (fun K23 k23 => ?_)
        refine gs [.det (.slice (some ⟨b, off, none⟩) l0.length cap0), .det (.int .i64 ((i : Nat) : Int)), .det (.pointer (some ⟨b, off + i * 4, none⟩)), .det (RV x), .det (.bool true), .det (.bool false), .det (.bool false), .det (.slice (some ⟨b0, off0, none⟩) l1.length cap1), .det (.int .i64 ((i : Nat) : Int)), .det (.pointer (some ⟨b0, off0 + i * 4, none⟩)), .det (RV y), .det (.bool false), .det (.bool true), .det (.bool true)] [0, 1, 2, 3, 4, 5, 6, 7, 8, 9, 10, 11, 12, 13] [0, 0, 3, 7, 15, 31, 63, 127, 127, 511, 1023, 2047, 4095, 8191] (fun L => [.slice (some ⟨b, off, none⟩) l0.length cap0, .slice (some ⟨b0, off0, none⟩) l1.length cap1, .bool true, u3, u4, u5, .bool false, v, L4.p 0, .int .i64 ((i : Nat) : Int), u10, u11, u12, u13, u14, u15, u16, u17, u18, u19, .int .i64 ((i : Nat) : Int), .slice (some ⟨b, off, none⟩) l0.length cap0, .int .i64 l0.length, .slice (some ⟨b0, off0, none⟩) l1.length cap1, .int .i64 l1.length, .int .i64 ((n0 : Nat) : Int), .bool true, u27, u28, .slice (some ⟨b, off, none⟩) l0.length cap0, .int .i64 ((i : Nat) : Int), .pointer (some ⟨b, off + i * 4, none⟩), RV x, .bool true, .bool false, .bool false, .slice (some ⟨b0, off0, none⟩) l1.length cap1, .int .i64 ((i : Nat) : Int), .pointer (some ⟨b0, off0 + i * 4, none⟩), RV y, .bool false, .bool true, .bool true, u43, u44, u45, u46, u47, u48, u49, u50, u51, u52, u53, u54, u55, u56, u57, u58, u59, u60, u61, u62, u63, u64, u65, u66, u67, u68, u69, u70, u71, u72, u73, u74, u75, u76, u77, u78, u79, u80, u81, u82, u83]) (fun L => []) hp12 ⟨
          oM, oM, oIS (n := l0.length) (c := cap0) i Tryz.underlying22 rR.size (by omega), oLW rR (fun L w hs => ⟨_, _, rfl, rangeR (hRR i x hx) (hbel.trans (hs.bel.mono hbel.size))⟩),
          oH (v := .bool true) (vs := #[RV x]) (fun w _ _ => by have h := mayR hx6 w; rw [decide_eq_true hxr] at h; exact h), oN, oM, oM, oM, oIS (n := l1.length) (c := cap1) i Tryz.underlying22 rR.size (by omega),
          oLW rR (fun L w hs => ⟨_, _, rfl, rangeR (hSS i y hy) (hbel.trans (hs.bel.mono hbel.size))⟩), oH (v := .bool false) (vs := #[RV y]) (fun w _ _ => by have h := mayR hy6 w; rw [decide_eq_false hyr] at h; exact h),
          oN, oP,
          trivial⟩ (fun L12 w13 hp13 => ?_)
        refine k23 _ _ ?_
        refine wp_cond_true (by kernel_rfl) ?_
        refine wp_seq_k (fun K24 k24 => ?_)
        refine gs [.det (.bool true)] [0] [0] (fun L => [.slice (some ⟨b, off, none⟩) l0.length cap0, .slice (some ⟨b0, off0, none⟩) l1.length cap1, .bool true, u3, u4, u5, .bool true, v, L4.p 0, .int .i64 ((i : Nat) : Int), u10, u11, u12, u13, u14, u15, u16, u17, u18, u19, .int .i64 ((i : Nat) : Int), .slice (some ⟨b, off, none⟩) l0.length cap0, .int .i64 l0.length, .slice (some ⟨b0, off0, none⟩) l1.length cap1, .int .i64 l1.length, .int .i64 ((n0 : Nat) : Int), .bool true, u27, u28, .slice (some ⟨b, off, none⟩) l0.length cap0, .int .i64 ((i : Nat) : Int), .pointer (some ⟨b, off + i * 4, none⟩), RV x, .bool true, .bool false, .bool false, .slice (some ⟨b0, off0, none⟩) l1.length cap1, .int .i64 ((i : Nat) : Int), .pointer (some ⟨b0, off0 + i * 4, none⟩), RV y, .bool false, .bool true, .bool true, u43, u44, u45, u46, u47, u48, u49, u50, u51, u52, u53, u54, u55, u56, u57, u58, u59, u60, u61, u62, u63, u64, u65, u66, u67, u68, u69, u70, u71, u72, u73, u74, u75, u76, u77, u78, u79, u80, u81, u82, u83]) (fun L => []) hp13 ⟨
          oA,
          trivial⟩ (fun L13 w14 hp14 => ?_)
        refine k24 _ _ ?_
        refine wp_ret ?_
        refine k21 _ _ _ ?_
        refine k10 _ _ _ ?_
        refine bodyPost_ret (v := .bool true) ?_ rfl ?_
        · exact res_t rfl (by kernel_rfl) _
        · exact ⟨rfl, hbel.trans (hp14.bel.mono hbel.size)⟩
    · skip
      refine wp_seq_k (fun K25 k25 => ?_)
      refine wp_seq_k (fun K26 k26 => ?_)
      refine gs [.det (.int .i64 ((i : Nat) : Int)), .det (.slice (some ⟨b, off, none⟩) l0.length cap0), .det (.int .i64 l0.length), .det (.slice (some ⟨b0, off0, none⟩) l1.length cap1), .det (.int .i64 l1.length), .det (.int .i64 ((n0 : Nat) : Int)), .det (.bool true)] [0, 1, 2, 3, 4, 5, 6] [0, 0, 2, 0, 8, 30, 63] (fun L => [.slice (some ⟨b, off, none⟩) l0.length cap0, .slice (some ⟨b0, off0, none⟩) l1.length cap1, .bool true, u3, u4, u5, .bool false, v, L4.p 0, .int .i64 ((i : Nat) : Int), u10, u11, u12, u13, u14, u15, u16, u17, u18, u19, .int .i64 ((i : Nat) : Int), .slice (some ⟨b, off, none⟩) l0.length cap0, .int .i64 l0.length, .slice (some ⟨b0, off0, none⟩) l1.length cap1, .int .i64 l1.length, .int .i64 ((n0 : Nat) : Int), .bool true, u27, u28, u29, u30, u31, u32, u33, u34, u35, u36, u37, u38, u39, u40, u41, u42, u43, u44, u45, u46, u47, u48, u49, u50, u51, u52, u53, u54, u55, u56, u57, u58, u59, u60, u61, u62, u63, u64, u65, u66, u67, u68, u69, u70, u71, u72, u73, u74, u75, u76, u77, u78, u79, u80, u81, u82, u83]) (fun L => []) hq ⟨
        oM, oM, fun h => ⟨ob_len (p := (some ⟨b, off, none⟩)) (n := l0.length) (c := cap0) (fun _ => rfl) h rfl (fun _ => by kernel_rfl) Tryz.underlying22⟩,
        oM, fun h => ⟨ob_len (p := (some ⟨b0, off0, none⟩)) (n := l1.length) (c := cap1) (fun _ => rfl) h rfl (fun _ => by kernel_rfl) Tryz.underlying22⟩,
        oMn (m := l0.length) (n := l1.length) hmin, oJ .i64 .i64 ((i : Nat) : Int) ((n0 : Nat) : Int) (h := fun w => (lssI _ _ _ w).trans (by rw [decide_eq_true (by omega)])),
        trivial⟩ (fun L14 w15 hp15 => ?_)
      refine k26 _ _ ?_
      refine wp_cond_true (by kernel_rfl) ?_
      refine skips ?_
      refine k25 _ _ ?_
      refine wp_seq_k (fun K27 k27 => ?_)
      refine wp_block_k (fun K28 k28 => ?_)
      refine wp_seq_k (fun K29 k29 => ?_)
      refine wp_seq_k (fun K30 k30 => ?_)
      refine gs [.det (.slice (some ⟨b, off, none⟩) l0.length cap0), .det (.int .i64 ((i : Nat) : Int)), .det (.pointer (some ⟨b, off + i * 4, none⟩)), .det (RV x), .det (.bool false), .det (.bool true), .det (.bool true), .det undef, .det undef, .det undef, .det undef, .det undef, .det undef, .det (.bool true)] [0, 1, 2, 3, 4, 5, 6, 7, 8, 9, 10, 11, 12, 13] [0, 0, 3, 7, 15, 31, 63, 127, 127, 511, 1023, 2047, 4095, 8191] (fun L => [.slice (some ⟨b, off, none⟩) l0.length cap0, .slice (some ⟨b0, off0, none⟩) l1.length cap1, .bool true, u3, u4, u5, .bool false, v, L4.p 0, .int .i64 ((i : Nat) : Int), u10, u11, u12, u13, u14, u15, u16, u17, u18, u19, .int .i64 ((i : Nat) : Int), .slice (some ⟨b, off, none⟩) l0.length cap0, .int .i64 l0.length, .slice (some ⟨b0, off0, none⟩) l1.length cap1, .int .i64 l1.length, .int .i64 ((n0 : Nat) : Int), .bool true, u27, u28, .slice (some ⟨b, off, none⟩) l0.length cap0, .int .i64 ((i : Nat) : Int), .pointer (some ⟨b, off + i * 4, none⟩), RV x, .bool false, .bool true, .bool true, undef, undef, undef, undef, undef, undef, .bool true, u43, u44, u45, u46, u47, u48, u49, u50, u51, u52, u53, u54, u55, u56, u57, u58, u59, u60, u61, u62, u63, u64, u65, u66, u67, u68, u69, u70, u71, u72, u73, u74, u75, u76, u77, u78, u79, u80, u81, u82, u83]) (fun L => []) hp15 ⟨
        oM, oM, oIS (n := l0.length) (c := cap0) i Tryz.underlying22 rR.size (by omega), oLW rR (fun L w hs => ⟨_, _, rfl, rangeR (hRR i x hx) (hbel.trans (hs.bel.mono hbel.size))⟩),
        oH (v := .bool false) (vs := #[RV x]) (fun w _ _ => by have h := mayR hx6 w; rw [decide_eq_false hxr] at h; exact h), oN, oM, oS, oS, oS, oS, oS, oS, oP,
        trivial⟩ (fun L15 w16 hp16 => ?_)
      refine k30 _ _ ?_
      refine wp_cond_true (by kernel_rfl) ?_
      refine wp_seq_k (fun K31 k31 => ?_)
      refine gs [.det (.bool true)] [0] [0] (fun L => [.slice (some ⟨b, off, none⟩) l0.length cap0, .slice (some ⟨b0, off0, none⟩) l1.length cap1, .bool true, u3, u4, u5, .bool true, v, L4.p 0, .int .i64 ((i : Nat) : Int), u10, u11, u12, u13, u14, u15, u16, u17, u18, u19, .int .i64 ((i : Nat) : Int), .slice (some ⟨b, off, none⟩) l0.length cap0, .int .i64 l0.length, .slice (some ⟨b0, off0, none⟩) l1.length cap1, .int .i64 l1.length, .int .i64 ((n0 : Nat) : Int), .bool true, u27, u28, .slice (some ⟨b, off, none⟩) l0.length cap0, .int .i64 ((i : Nat) : Int), .pointer (some ⟨b, off + i * 4, none⟩), RV x, .bool false, .bool true, .bool true, undef, undef, undef, undef, undef, undef, .bool true, u43, u44, u45, u46, u47, u48, u49, u50, u51, u52, u53, u54, u55, u56, u57, u58, u59, u60, u61, u62, u63, u64, u65, u66, u67, u68, u69, u70, u71, u72, u73, u74, u75, u76, u77, u78, u79, u80, u81, u82, u83]) (fun L => []) hp16 ⟨
        oA,
        trivial⟩ (fun L16 w17 hp17 => ?_)
      refine k31 _ _ ?_
      refine wp_ret ?_
      refine k28 _ _ _ ?_
      refine k10 _ _ _ ?_
      refine bodyPost_ret (v := .bool true) ?_ rfl ?_
      · exact res_t rfl (by kernel_rfl) _
      · exact ⟨rfl, hbel.trans (hp17.bel.mono hbel.size)⟩
  obtain rfl : i = n0 := by omega
  have hzz : (l0.zip l1).take i = l0.zip l1 := List.take_of_length_le (by rw [List.length_zip]; omega)
  have hzl : (l0.zip l1).length ≤ 3 := by rw [List.length_zip]; omega
  rw [hzz] at hOwn hS
  refine wp_seq_k (fun K32 k32 => ?_)
  refine wp_seq_k (fun K33 k33 => ?_)
  refine gs [.det (.int .i64 ((i : Nat) : Int)), .det (.slice a0 l0.length cap0), .det (.int .i64 l0.length), .det (.slice a1 l1.length cap1), .det (.int .i64 l1.length), .det (.int .i64 ((i : Nat) : Int)), .det (.bool false)] [0, 1, 2, 3, 4, 5, 6] [0, 0, 2, 0, 8, 30, 63] (fun L => [.slice a0 l0.length cap0, .slice a1 l1.length cap1, .bool true, u3, u4, u5, .bool false, v, L4.p 0, .int .i64 ((i : Nat) : Int), u10, u11, u12, u13, u14, u15, u16, u17, u18, u19, .int .i64 ((i : Nat) : Int), .slice a0 l0.length cap0, .int .i64 l0.length, .slice a1 l1.length cap1, .int .i64 l1.length, .int .i64 ((i : Nat) : Int), .bool false, u27, u28, u29, u30, u31, u32, u33, u34, u35, u36, u37, u38, u39, u40, u41, u42, u43, u44, u45, u46, u47, u48, u49, u50, u51, u52, u53, u54, u55, u56, u57, u58, u59, u60, u61, u62, u63, u64, u65, u66, u67, u68, u69, u70, u71, u72, u73, u74, u75, u76, u77, u78, u79, u80, u81, u82, u83]) (fun L => []) hq ⟨
    oM, oM, fun h => ⟨ob_len (p := a0) (n := l0.length) (c := cap0) (fun _ => rfl) h rfl (fun _ => by kernel_rfl) Tryz.underlying22⟩, oM, fun h => ⟨ob_len (p := a1) (n := l1.length) (c := cap1) (fun _ => rfl) h rfl (fun _ => by kernel_rfl) Tryz.underlying22⟩,
    oMn (m := l0.length) (n := l1.length) hmin, oJ .i64 .i64 ((i : Nat) : Int) ((i : Nat) : Int) (h := fun w => (lssI _ _ _ w).trans (by rw [decide_eq_false (by omega)])),
    trivial⟩ (fun L17 w18 hp18 => ?_)
  refine k33 _ _ ?_
  refine wp_cond_false (by kernel_rfl) ?_
  refine wp_exit ?_
  refine then_exit ?_
  refine then_exit ?_
  obtain ⟨T, hT⟩ : ∃ T, (ordR - S) % ordR = T := ⟨_, rfl⟩
  have hT6 : T < 2 ^ 256 := by rw [← hT]; exact modR _
  refine k10 _ _ _ ?_
  refine exit_in ?_
  refine k8 _ _ ?_
  refine wp_seq_k (fun K34 k34 => ?_)
  refine wp_seq_k (fun K35 k35 => ?_)
  refine gs [.det (.bool true)] [0] [0] (fun L => [.slice a0 l0.length cap0, .slice a1 l1.length cap1, .bool true, u3, u4, u5, .bool false, v, L4.p 0, .int .i64 ((i : Nat) : Int), u10, u11, u12, u13, u14, u15, u16, u17, u18, u19, .int .i64 ((i : Nat) : Int), .slice a0 l0.length cap0, .int .i64 l0.length, .slice a1 l1.length cap1, .int .i64 l1.length, .int .i64 ((i : Nat) : Int), .bool false, u27, u28, u29, u30, u31, u32, u33, u34, u35, u36, u37, u38, u39, u40, u41, u42, u43, u44, u45, u46, u47, u48, u49, u50, u51, u52, u53, u54, u55, u56, u57, u58, u59, u60, u61, u62, u63, u64, u65, u66, u67, .bool true, u69, u70, u71, u72, u73, u74, u75, u76, u77, u78, u79, u80, u81, u82, u83]) (fun L => []) hp18 ⟨
    oM,
    trivial⟩ (fun L18 w19 hp19 => ?_)
  refine k35 _ _ ?_
  refine wp_cond_true (by kernel_rfl) ?_
  refine wp_region_list ?_
  refine gsC 7 [.det (v), .det (RV S), .det (RV T), .det (GV (gp (mul finv T g1))), .det (T2.GV (T2.gp g2)), .det (ZV ⟨(gp (mul finv T g1)), (T2.gp g2)⟩), .any (isRow1 (ZC ⟨(gp (mul finv T g1)), (T2.gp g2)⟩))] [0, 1, 2, 3, 4, 5, 6] [0, 1, 3, 7, 15, 31, 63] (fun L _ => [.slice a0 l0.length cap0, .slice a1 l1.length cap1, .bool true, u3, u4, u5, .bool false, v, L4.p 0, .int .i64 ((i : Nat) : Int), u10, u11, u12, u13, u14, u15, u16, u17, u18, u19, .int .i64 ((i : Nat) : Int), .slice a0 l0.length cap0, .int .i64 l0.length, .slice a1 l1.length cap1, .int .i64 l1.length, .int .i64 ((i : Nat) : Int), .bool false, u27, u28, u29, u30, u31, u32, u33, u34, u35, u36, u37, u38, u39, u40, u41, u42, u43, u44, u45, u46, u47, u48, u49, u50, u51, u52, u53, u54, u55, u56, u57, u58, u59, u60, u61, u62, u63, u64, u65, u66, u67, .bool true, v, RV S, RV T, GV (gp (mul finv T g1)), T2.GV (T2.gp g2), ZV ⟨(gp (mul finv T g1)), (T2.gp g2)⟩, L.v 6, u76, u77, u78, u79, u80, u81, u82, u83]) (fun L => []) hp19 ⟨
    oM, oG rR (fun _ w hs => (hbx.up hs.bel).cells), oR (hT ▸ negR hSR), oH (v := GV (gp (mul finv T g1))) (vs := #[RV T]) (fun w _ _ => law11g1 R T g1 w hT6 hg1 h1),
    oR (by rw [hg2]; exact T2.ref5Gen1 R), oD (buildZ01 (gp (mul finv T g1)) (T2.gp g2)), oS2 Tryz.underlying24 rZ,
    trivial⟩ (fun L19 _ w20 hp20 ha20 => ?_)
  obtain ⟨ky, ey, hy⟩ := AnyF.at (ha20 (by kernel_rfl)) (j := 6) rfl rfl
  rw [ey]
  refine oneL rfl rfl (wp_appendZ (.tmp 69) (.tmp 75) rfl (v := v) (u := .slice (some ⟨ky, 0, none⟩) 1 1) (P := (T, 1)) (by kernel_rfl) (hOwn.below hp20.bel) (by kernel_rfl) (by rw [← zp_fit hg1 hg2]; exact ⟨ky, rfl, hy⟩) (by omega) (Nat.le_trans hBs hp20.bel.size) (fun v2 x2 ho2 hb2 => ?_))
  have hbx2 := (hbx.up hp20.bel).below hb2 hbB
  have hbel2 := hbel.trans ((hp20.bel.mono hbel.size).trans (hb2.mono hwB))
  have hq1 := Heap.start x2
  refine gsC 2 [.det (RV 0), .det (v2)] [0, 1] [0, 1] (fun L _ => [.slice a0 l0.length cap0, .slice a1 l1.length cap1, .bool true, u3, u4, u5, .bool false, v2, L4.p 0, .int .i64 ((i : Nat) : Int), u10, u11, u12, u13, u14, u15, u16, u17, u18, u19, .int .i64 ((i : Nat) : Int), .slice a0 l0.length cap0, .int .i64 l0.length, .slice a1 l1.length cap1, .int .i64 l1.length, .int .i64 ((i : Nat) : Int), .bool false, u27, u28, u29, u30, u31, u32, u33, u34, u35, u36, u37, u38, u39, u40, u41, u42, u43, u44, u45, u46, u47, u48, u49, u50, u51, u52, u53, u54, u55, u56, u57, u58, u59, u60, u61, u62, u63, u64, u65, u66, u67, .bool true, v, RV S, RV T, GV (gp (mul finv T g1)), T2.GV (T2.gp g2), ZV ⟨(gp (mul finv T g1)), (T2.gp g2)⟩, .slice (some ⟨ky, 0, none⟩) 1 1, v2, RV 0, u78, u79, u80, u81, u82, u83]) (fun L => []) hq1 ⟨
    oD buildRn, oA,
    trivial⟩ (fun L20 _ w21 hp21 ha21 => ?_)
  refine oneL rfl rfl (wp_storeR (cs := RC S) (new := RC 0) rR rfl (by kernel_rfl) (by kernel_rfl) (by kernel_rfl) (by kernel_rfl) (by kernel_rfl) (hbx2.up hp21.bel) rfl (fun x3 hw3 hbx3 => ?_))
  have hOwn := (ho2.below hp21.bel).wr hw3 hbB
  have hbel3 := (hbel2.trans (hp21.bel.mono hbel2.size)).trans (hw3.below hwb)
  have hq3 := Heap.start x3
  refine wpList_nil ?_
  refine k34 _ _ ?_
  refine wp_seq_k (fun K36 k36 => ?_)
  have hOwn := hOwn.below hq3.bel
  obtain ⟨LL, hLe⟩ : ∃ LL, LL = l0.zip l1 ++ [(T, 1)] := ⟨_, rfl⟩
  rw [← hLe] at hOwn
  have hL20 : LL.length ≤ 20 := by rw [hLe]; rw [List.length_append]; show _ + 1 ≤ 20; omega
  obtain ⟨pp, cp, rfl, hcp, hcp2, hAZ⟩ := hOwn.at
  obtain ⟨sb, hsb⟩ : ∃ sb, decide ((0 : Nat) = 0) = sb := ⟨_, rfl⟩
  have hLL : decide (zsum LL % ordR = 0) = sb := by rw [← hsb, hLe, ← hT, hS, fit_zero]
  have hbE := hbel3.trans (hq3.bel.mono hbel3.size)
  have hg := K.stay hgw hbE
  have hbxE := hbx3.up hq3.bel
  have hqE := Heap.start x3
  refine dr [.det (.slice pp LL.length cp), .det (.bool sb), .det (RV 0), .det (RV 0), .det (.bool sb), .det (.bool true), .det (.bool true)] [0, 1, 2, 3, 4, 5, 6] [0, 1, 0, 0, 12, 31, 63] (fun L => [.slice a0 l0.length cap0, .slice a1 l1.length cap1, .bool true, u3, u4, u5, .bool true, .slice pp LL.length cp, L4.p 0, .int .i64 ((i : Nat) : Int), u10, u11, u12, u13, u14, u15, u16, u17, u18, u19, .int .i64 ((i : Nat) : Int), .slice a0 l0.length cap0, .int .i64 l0.length, .slice a1 l1.length cap1, .int .i64 l1.length, .int .i64 ((i : Nat) : Int), .bool false, u27, u28, u29, u30, u31, u32, u33, u34, u35, u36, u37, u38, u39, u40, u41, u42, u43, u44, u45, u46, u47, u48, u49, u50, u51, u52, u53, u54, u55, u56, u57, u58, u59, u60, u61, u62, u63, u64, u65, u66, u67, .bool true, v, RV S, RV T, GV (gp (mul finv T g1)), T2.GV (T2.gp g2), ZV ⟨(gp (mul finv T g1)), (T2.gp g2)⟩, .slice (some ⟨ky, 0, none⟩) 1 1, .slice pp LL.length cp, RV 0, .slice pp LL.length cp, .bool sb, RV 0, RV 0, .bool sb, .bool true]) (fun L => []) hqE ⟨
    oM, oH (v := .bool sb) (vs := #[.slice pp LL.length cp]) (fun w hb _ => by have h := K.check LL pp _ cp w (K.stay hg hb) hL20 rfl hcp hcp2 (AtZ.up (B := 0) hAZ hb); rw [hLL] at h; exact h),
    oG rR (fun _ w hs => (hbxE.up hs.bel).cells), oD buildRn, oW (u := RV 0) (v := RV 0) (r := .bool sb) (fun w => guardR _ _ _ _ _ w) (fun w => eqlR0 (by decide) _ hsb w),
    oE (a := sb) (b := sb) qB (yes rfl), oA,
    trivial⟩ (fun L21 w22 hp22 => ?_)
  refine k36 _ _ ?_
  refine wp_ret ?_
  refine bodyPost_ret (v := .bool true) ?_ rfl ?_
  · exact res_t rfl (by kernel_rfl) _
  · exact ⟨rfl, hbE.trans (hp22.bel.mono hbE.size)⟩
set_option maxHeartbeats 4000000 in
theorem checks3 {G : World → Prop} (K : PairK G) (R : RefK) (g1 : Pt F) (g2 : Pt F2) (a0 a1 : Option Addr) (l0 l1 : List Nat) (cap0 cap1 : Nat) (w : World) (hg : G w) (hg1 : g1 = gen1) (hg2 : g2 = gen2) (h1 : On (4 : F) g1) (h2 : On b2 g2) (h5 : l0.length ≤ 3) (h6 : l1.length ≤ 3) (hk0 : ∀ n ∈ l0, n < 2 ^ 256) (hk1 : ∀ n ∈ l1, n < 2 ^ 256) (hA0 : AtR w a0 l0) (hA1 : AtR w a1 l1) : Calls Tryz.prog 3 #[.slice a0 l0.length cap0, .slice a1 l1.length cap1, .bool false] w (Ret (.bool true) w) := by
  have hp0 := Heap.start w
  go_enter Tryz.func3, Tryz.ntmps3
  refine wp_seq_k (fun K1 k1 => ?_)
  refine gs [.det (.bool false)] [0] [0] (fun L => [.slice a0 l0.length cap0, .slice a1 l1.length cap1, .bool false, undef, undef, undef, .bool false] ++ U 77) (fun L => []) hp0 ⟨
    oA,
    trivial⟩ (fun L0 w1 hp1 => ?_)
  refine k1 _ _ ?_
  refine wp_seq_k (fun K2 k2 => ?_)
  refine wp_seq_k (fun K3 k3 => ?_)
  refine gs [.det (.bool true), .det (.bool false)] [0, 1] [0, 1] (fun L => [.slice a0 l0.length cap0, .slice a1 l1.length cap1, .bool false, undef, undef, undef, .bool false, undef, undef, undef, .bool true, .bool false] ++ U 72) (fun L => []) hp1 ⟨
    oC K.stay hg (begun11 K R), oN,
    trivial⟩ (fun L1 w2 hp2 => ?_)
  refine k3 _ _ ?_
  refine wp_cond_false (by kernel_rfl) ?_
  refine skips ?_
  refine k2 _ _ ?_
  refine wp_seq_k (fun K4 k4 => ?_)
  refine wp_seq_k (fun K5 k5 => ?_)
  refine gs [.det (.slice a0 l0.length cap0), .det (.int .i64 l0.length), .det (.bool false), .det (.bool false), .det (.slice a1 l1.length cap1), .det (.int .i64 l1.length), .det (.bool false), .det (.bool false)] [0, 1, 2, 3, 4, 5, 6, 7] [0, 1, 3, 7, 15, 31, 63, 127] (fun L => [.slice a0 l0.length cap0, .slice a1 l1.length cap1, .bool false, undef, undef, undef, .bool false, undef, undef, undef, .bool true, .bool false, .slice a0 l0.length cap0, .int .i64 l0.length, .bool false, .bool false, .slice a1 l1.length cap1, .int .i64 l1.length, .bool false, .bool false] ++ U 64) (fun L => []) hp2 ⟨
    oM, fun h => ⟨ob_len (p := a0) (n := l0.length) (c := cap0) (fun _ => rfl) h rfl (fun _ => by kernel_rfl) Tryz.underlying22⟩, oJ .i64 .i64 l0.length 3 (h := fun w => (gtrI _ _ _ w).trans (by rw [decide_eq_false (by omega)])),
    oM, oM, fun h => ⟨ob_len (p := a1) (n := l1.length) (c := cap1) (fun _ => by kernel_rfl) h rfl (fun _ => by kernel_rfl) Tryz.underlying22⟩, oJ .i64 .i64 l1.length 3 (h := fun w => (gtrI _ _ _ w).trans (by rw [decide_eq_false (by omega)])),
    oP,
    trivial⟩ (fun L2 w3 hp3 => ?_)
  refine k5 _ _ ?_
  refine wp_cond_false (by kernel_rfl) ?_
  refine skips ?_
  refine k4 _ _ ?_
  refine wp_seq_k (fun K6 k6 => ?_)
  refine gs [.det (.slice none 0 0)] [0] [0] (fun L => [.slice a0 l0.length cap0, .slice a1 l1.length cap1, .bool false, undef, undef, undef, .bool false, .slice none 0 0, undef, undef, .bool true, .bool false, .slice a0 l0.length cap0, .int .i64 l0.length, .bool false, .bool false, .slice a1 l1.length cap1, .int .i64 l1.length, .bool false, .bool false] ++ U 64) (fun L => []) hp3 ⟨
    oA,
    trivial⟩ (fun L3 w4 hp4 => ?_)
  refine k6 _ _ ?_
  refine wp_seq_k (fun K7 k7 => ?_)
  refine gs [.alloc (RC 0)] [0] [0] (fun L => [.slice a0 l0.length cap0, .slice a1 l1.length cap1, .bool false, undef, undef, undef, .bool false, .slice none 0 0, L.p 0, undef, .bool true, .bool false, .slice a0 l0.length cap0, .int .i64 l0.length, .bool false, .bool false, .slice a1 l1.length cap1, .int .i64 l1.length, .bool false, .bool false] ++ U 64) (fun L => [(L.b 0, RC 0)]) hp4 ⟨
    oZ rR,
    trivial⟩ (fun L4 w5 hp5 => ?_)
  refine k7 _ _ ?_
  refine wp_seq_k (fun K8 k8 => ?_)
  refine wp_seq_k (fun K9 k9 => ?_)
  refine gs [.det (.int .i64 0)] [0] [0] (fun L => [.slice a0 l0.length cap0, .slice a1 l1.length cap1, .bool false, undef, undef, undef, .bool false, .slice none 0 0, L4.p 0, .int .i64 0, .bool true, .bool false, .slice a0 l0.length cap0, .int .i64 l0.length, .bool false, .bool false, .slice a1 l1.length cap1, .int .i64 l1.length, .bool false, .bool false] ++ U 64) (fun L => [(L4.b 0, RC 0)]) hp5 ⟨
    oA,
    trivial⟩ (fun L5 w6 hp6 => ?_)
  refine k9 _ _ ?_
  refine wp_block_k (fun K10 k10 => ?_)
  obtain ⟨hbw, hbx0⟩ := hp6.bound 0 rfl
  obtain ⟨n0, hmin⟩ : ∃ n0, min l0.length l1.length = n0 := ⟨_, rfl⟩
  obtain ⟨B, hBe⟩ : ∃ B, B = w6.heap.size := ⟨_, rfl⟩
  have hbB : (L4.b 0) < B := by rw [hBe]; exact hbx0.lt
  have hwB : w.heap.size ≤ B := by rw [hBe]; exact hp6.bel.size
  have hwb : w.heap.size ≤ (L4.b 0) := hbw
  have hgw := hg
  refine wp_loop_ghost (chkI a0 a1 l0 l1 cap0 cap1 false (L4.b 0) B n0 w) n0 ⟨0, .slice none 0 0, undef, undef, undef, .bool true, .bool false, .slice a0 l0.length cap0, .int .i64 l0.length, .bool false, .bool false, .slice a1 l1.length cap1, .int .i64 l1.length, .bool false, .bool false, undef, undef, undef, undef, undef, undef, undef, undef, undef, undef, undef, undef, undef, undef, undef, undef, undef, undef, undef, undef, undef, undef, undef, undef, undef, undef, undef, undef, undef, undef, undef, undef, undef, undef, undef, undef, undef, undef, undef, undef, undef, undef, undef, undef, undef, undef, undef, undef, undef, undef, undef, undef, undef, undef, undef, undef, undef, undef, undef, undef, undef, undef, undef, undef, rfl, Nat.zero_add _, fun n hn => (by cases hn), World.ownsRow_nil _ _ _ _, hbx0, hp6.bel, Nat.le_of_eq hBe⟩ ?_
  rintro L a' W ⟨i, v, u3, u4, u5, u10, u11, u12, u13, u14, u15, u16, u17, u18, u19, u20, u21, u22, u23, u24, u25, u26, u27, u28, u29, u30, u31, u32, u33, u34, u35, u36, u37, u38, u39, u40, u41, u42, u43, u44, u45, u46, u47, u48, u49, u50, u51, u52, u53, u54, u55, u56, u57, u58, u59, u60, u61, u62, u63, u64, u65, u66, u67, u68, u69, u70, u71, u72, u73, u74, u75, u76, u77, u78, u79, u80, u81, u82, u83, rfl, hL, hlt, hOwn, hbx, hbel, hBs⟩
  obtain ⟨S, hS⟩ : ∃ S, S = ssum ((l0.zip l1).take i) := ⟨_, rfl⟩
  have hSR : S < ordR := by rw [hS]; exact ssum_lt _
  have hS6 := Nat.lt_trans hSR ordR_256
  rw [← hS] at hbx
  have hg := K.stay hgw hbel
  have hq := Heap.start W
  by_cases hL0 : L = 0
  rotate_left
  · skip
    have hi0 : i < l0.length := by omega
    have hi1 : i < l1.length := by omega
    obtain ⟨b, off, rfl, hRR⟩ := hA0 (by omega)
    obtain ⟨b0, off0, rfl, hSS⟩ := hA1 (by omega)
    obtain ⟨x, hx⟩ : ∃ x, l0[i]? = some x := ⟨l0[i], List.getElem?_eq_getElem hi0⟩
    obtain ⟨y, hy⟩ : ∃ y, l1[i]? = some y := ⟨l1[i], List.getElem?_eq_getElem hi1⟩
    have hx6 := hk0 x (List.mem_of_getElem? hx)
    have hy6 := hk1 y (List.mem_of_getElem? hy)
    by_cases hxr : x < ordR
    · skip
      by_cases hyr : y < ordR
      · skip
        refine wp_seq_k (fun K11 k11 => ?_)
        refine wp_seq_k (fun K12 k12 => ?_)
        refine gs [.det (.int .i64 ((i : Nat) : Int)), .det (.slice (some ⟨b, off, none⟩) l0.length cap0), .det (.int .i64 l0.length), .det (.slice (some ⟨b0, off0, none⟩) l1.length cap1), .det (.int .i64 l1.length), .det (.int .i64 ((n0 : Nat) : Int)), .det (.bool true)] [0, 1, 2, 3, 4, 5, 6] [0, 0, 2, 0, 8, 30, 63] (fun L => [.slice (some ⟨b, off, none⟩) l0.length cap0, .slice (some ⟨b0, off0, none⟩) l1.length cap1, .bool false, u3, u4, u5, .bool false, v, L4.p 0, .int .i64 ((i : Nat) : Int), u10, u11, u12, u13, u14, u15, u16, u17, u18, u19, .int .i64 ((i : Nat) : Int), .slice (some ⟨b, off, none⟩) l0.length cap0, .int .i64 l0.length, .slice (some ⟨b0, off0, none⟩) l1.length cap1, .int .i64 l1.length, .int .i64 ((n0 : Nat) : Int), .bool true, u27, u28, u29, u30, u31, u32, u33, u34, u35, u36, u37, u38, u39, u40, u41, u42, u43, u44, u45, u46, u47, u48, u49, u50, u51, u52, u53, u54, u55, u56, u57, u58, u59, u60, u61, u62, u63, u64, u65, u66, u67, u68, u69, u70, u71, u72, u73, u74, u75, u76, u77, u78, u79, u80, u81, u82, u83]) (fun L => []) hq ⟨
          oM, oM, fun h => ⟨ob_len (p := (some ⟨b, off, none⟩)) (n := l0.length) (c := cap0) (fun _ => rfl) h rfl (fun _ => by kernel_rfl) Tryz.underlying22⟩,
          oM, fun h => ⟨ob_len (p := (some ⟨b0, off0, none⟩)) (n := l1.length) (c := cap1) (fun _ => rfl) h rfl (fun _ => by kernel_rfl) Tryz.underlying22⟩,
          oMn (m := l0.length) (n := l1.length) hmin, oJ .i64 .i64 ((i : Nat) : Int) ((n0 : Nat) : Int) (h := fun w => (lssI _ _ _ w).trans (by rw [decide_eq_true (by omega)])),
          trivial⟩ (fun L6 w7 hp7 => ?_)
        refine k12 _ _ ?_
        refine wp_cond_true (by kernel_rfl) ?_
        refine skips ?_
        refine k11 _ _ ?_
        refine wp_seq_k (fun K13 k13 => ?_)
        refine wp_block_k (fun K14 k14 => ?_)
        refine wp_seq_k (fun K15 k15 => ?_)
        refine wp_seq_k (fun K16 k16 => ?_)
        refine gs [.det (.slice (some ⟨b, off, none⟩) l0.length cap0), .det (.int .i64 ((i : Nat) : Int)), .det (.pointer (some ⟨b, off + i * 4, none⟩)), .det (RV x), .det (.bool true), .det (.bool false), .det (.bool false), .det (.slice (some ⟨b0, off0, none⟩) l1.length cap1), .det (.int .i64 ((i : Nat) : Int)), .det (.pointer (some ⟨b0, off0 + i * 4, none⟩)), .det (RV y), .det (.bool true), .det (.bool false), .det (.bool false)] [0, 1, 2, 3, 4, 5, 6, 7, 8, 9, 10, 11, 12, 13] [0, 0, 3, 7, 15, 31, 63, 127, 127, 511, 1023, 2047, 4095, 8191] (fun L => [.slice (some ⟨b, off, none⟩) l0.length cap0, .slice (some ⟨b0, off0, none⟩) l1.length cap1, .bool false, u3, u4, u5, .bool false, v, L4.p 0, .int .i64 ((i : Nat) : Int), u10, u11, u12, u13, u14, u15, u16, u17, u18, u19, .int .i64 ((i : Nat) : Int), .slice (some ⟨b, off, none⟩) l0.length cap0, .int .i64 l0.length, .slice (some ⟨b0, off0, none⟩) l1.length cap1, .int .i64 l1.length, .int .i64 ((n0 : Nat) : Int), .bool true, u27, u28, .slice (some ⟨b, off, none⟩) l0.length cap0, .int .i64 ((i : Nat) : Int), .pointer (some ⟨b, off + i * 4, none⟩), RV x, .bool true, .bool false, .bool false, .slice (some ⟨b0, off0, none⟩) l1.length cap1, .int .i64 ((i : Nat) : Int), .pointer (some ⟨b0, off0 + i * 4, none⟩), RV y, .bool true, .bool false, .bool false, u43, u44, u45, u46, u47, u48, u49, u50, u51, u52, u53, u54, u55, u56, u57, u58, u59, u60, u61, u62, u63, u64, u65, u66, u67, u68, u69, u70, u71, u72, u73, u74, u75, u76, u77, u78, u79, u80, u81, u82, u83]) (fun L => []) hp7 ⟨
          oM, oM, oIS (n := l0.length) (c := cap0) i Tryz.underlying22 rR.size (by omega), oLW rR (fun L w hs => ⟨_, _, rfl, rangeR (hRR i x hx) (hbel.trans (hs.bel.mono hbel.size))⟩),
          oH (v := .bool true) (vs := #[RV x]) (fun w _ _ => by have h := mayR hx6 w; rw [decide_eq_true hxr] at h; exact h), oN, oM, oM, oM, oIS (n := l1.length) (c := cap1) i Tryz.underlying22 rR.size (by omega),
          oLW rR (fun L w hs => ⟨_, _, rfl, rangeR (hSS i y hy) (hbel.trans (hs.bel.mono hbel.size))⟩), oH (v := .bool true) (vs := #[RV y]) (fun w _ _ => by have h := mayR hy6 w; rw [decide_eq_true hyr] at h; exact h),
          oN, oP,
          trivial⟩ (fun L7 w8 hp8 => ?_)
        refine k16 _ _ ?_
        refine wp_cond_false (by kernel_rfl) ?_
        refine skips ?_
        refine k15 _ _ ?_
        refine wp_seq_k (fun K17 k17 => ?_)
        refine dT 13 [.det (v), .det (.slice (some ⟨b, off, none⟩) l0.length cap0), .det (.int .i64 ((i : Nat) : Int)), .det (.pointer (some ⟨b, off + i * 4, none⟩)), .det (RV x), .det (GV (gp (mul finv x g1))), .det (.slice (some ⟨b0, off0, none⟩) l1.length cap1), .det (.int .i64 ((i : Nat) : Int)), .det (.pointer (some ⟨b0, off0 + i * 4, none⟩)), .det (RV y), .det (T2.GV (T2.gp (mul F2.inv y g2))), .det (ZV ⟨(gp (mul finv x g1)), (T2.gp (mul F2.inv y g2))⟩), .any (isRow1 (ZC ⟨(gp (mul finv x g1)), (T2.gp (mul F2.inv y g2))⟩)), .any (fun _ _ => True), .detV 13 (fun v => v)] [0, 1, 2, 3, 4, 5, 6, 7, 8, 9, 10, 11, 12] [0, 0, 0, 6, 14, 30, 0, 0, 192, 448, 1022, 2046, 4094, 8191, 16383] (fun L => [.slice (some ⟨b, off, none⟩) l0.length cap0, .slice (some ⟨b0, off0, none⟩) l1.length cap1, .bool false, u3, u4, u5, .bool false, v, L4.p 0, .int .i64 ((i : Nat) : Int), u10, u11, u12, u13, u14, u15, u16, u17, u18, u19, .int .i64 ((i : Nat) : Int), .slice (some ⟨b, off, none⟩) l0.length cap0, .int .i64 l0.length, .slice (some ⟨b0, off0, none⟩) l1.length cap1, .int .i64 l1.length, .int .i64 ((n0 : Nat) : Int), .bool true, u27, u28, .slice (some ⟨b, off, none⟩) l0.length cap0, .int .i64 ((i : Nat) : Int), .pointer (some ⟨b, off + i * 4, none⟩), RV x, .bool true, .bool false, .bool false, .slice (some ⟨b0, off0, none⟩) l1.length cap1, .int .i64 ((i : Nat) : Int), .pointer (some ⟨b0, off0 + i * 4, none⟩), RV y, .bool true, .bool false, .bool false, v, .slice (some ⟨b, off, none⟩) l0.length cap0, .int .i64 ((i : Nat) : Int), .pointer (some ⟨b, off + i * 4, none⟩), RV x, GV (gp (mul finv x g1)), .slice (some ⟨b0, off0, none⟩) l1.length cap1, .int .i64 ((i : Nat) : Int), .pointer (some ⟨b0, off0 + i * 4, none⟩), RV y, T2.GV (T2.gp (mul F2.inv y g2)), ZV ⟨(gp (mul finv x g1)), (T2.gp (mul F2.inv y g2))⟩, L.v 12, u56, u57, u58, u59, u60, u61, u62, u63, u64, u65, u66, u67, u68, u69, u70, u71, u72, u73, u74, u75, u76, u77, u78, u79, u80, u81, u82, u83]) hp8 ⟨
      oM, oM, oM, oIS (n := l0.length) (c := cap0) i Tryz.underlying22 rR.size (by omega), oLW rR (fun L w hs => ⟨_, _, rfl, rangeR (hRR i x hx) (hbel.trans (hs.bel.mono hbel.size))⟩), oH (v := GV (gp (mul finv x g1))) (vs := #[RV x]) (fun w _ _ => law11g1 R x g1 w hx6 hg1 h1), oM, oM, oIS (n := l1.length) (c := cap1) i Tryz.underlying22 rR.size (by omega), oLW rR (fun L w hs => ⟨_, _, rfl, rangeR (hSS i y hy) (hbel.trans (hs.bel.mono hbel.size))⟩), oH (v := T2.GV (T2.gp (mul F2.inv y g2))) (vs := #[RV y]) (fun w _ _ => law11g2 R y g2 w hy6 hg2 h2), oD (buildZ01 (gp (mul finv x g1)) (T2.gp (mul F2.inv y g2))), oS2 Tryz.underlying24 rZ, trivial⟩ (fun L8 w9 hp9 ha9 => ?_)
        refine tail2 (by kernel_rfl) (wpOp_of rfl rfl (wp_appendZ (.tmp 43) (.tmp 55) rfl (v := v) (u := L8.v 12) (P := (x, y)) (by kernel_rfl) (hOwn.below hp9.bel) (by kernel_rfl) (by have h := ha9 12 _ (by decide) rfl; rw [← zp_at hg1 hg2]; exact h) (by rw [List.length_take]; omega) (Nat.le_trans hBs hp9.bel.size) (fun v2 x2 ho2 hb2 => ?_)))
        refine wpOp_of rfl rfl (wp_assign (v := v2) rfl (by kernel_rfl) ?_)
        have hbx2 := (hbx.up hp9.bel).below hb2 hbB
        have hbel2 := hbel.trans ((hp9.bel.mono hbel.size).trans (hb2.mono hwB))
        have hBs2 : B ≤ x2.heap.size := Nat.le_trans (Nat.le_trans hBs hp9.bel.size) hb2.size
        have hg := K.stay hgw hbel2
        have hq1 := Heap.start x2
        refine k17 _ _ ?_
        refine dT 11 [.det (RV S), .det (.slice (some ⟨b, off, none⟩) l0.length cap0), .det (.int .i64 ((i : Nat) : Int)), .det (.pointer (some ⟨b, off + i * 4, none⟩)), .det (RV x), .det (.slice (some ⟨b0, off0, none⟩) l1.length cap1), .det (.int .i64 ((i : Nat) : Int)), .det (.pointer (some ⟨b0, off0 + i * 4, none⟩)), .det (RV y), .det (RV (x * y % ordR)), .det (RV ((S + x * y % ordR) % ordR)), .det (.bool true)] [0, 1, 2, 3, 4, 5, 6, 7, 8, 9, 10] [0, 0, 0, 6, 14, 0, 0, 96, 224, 510, 1023, 2047] (fun L => [.slice (some ⟨b, off, none⟩) l0.length cap0, .slice (some ⟨b0, off0, none⟩) l1.length cap1, .bool false, u3, u4, u5, .bool false, v2, L4.p 0, .int .i64 ((i : Nat) : Int), u10, u11, u12, u13, u14, u15, u16, u17, u18, u19, .int .i64 ((i : Nat) : Int), .slice (some ⟨b, off, none⟩) l0.length cap0, .int .i64 l0.length, .slice (some ⟨b0, off0, none⟩) l1.length cap1, .int .i64 l1.length, .int .i64 ((n0 : Nat) : Int), .bool true, u27, u28, .slice (some ⟨b, off, none⟩) l0.length cap0, .int .i64 ((i : Nat) : Int), .pointer (some ⟨b, off + i * 4, none⟩), RV x, .bool true, .bool false, .bool false, .slice (some ⟨b0, off0, none⟩) l1.length cap1, .int .i64 ((i : Nat) : Int), .pointer (some ⟨b0, off0 + i * 4, none⟩), RV y, .bool true, .bool false, .bool false, v, .slice (some ⟨b, off, none⟩) l0.length cap0, .int .i64 ((i : Nat) : Int), .pointer (some ⟨b, off + i * 4, none⟩), RV x, GV (gp (mul finv x g1)), .slice (some ⟨b0, off0, none⟩) l1.length cap1, .int .i64 ((i : Nat) : Int), .pointer (some ⟨b0, off0 + i * 4, none⟩), RV y, T2.GV (T2.gp (mul F2.inv y g2)), ZV ⟨(gp (mul finv x g1)), (T2.gp (mul F2.inv y g2))⟩, (L8.v 12), v2, RV S, .slice (some ⟨b, off, none⟩) l0.length cap0, .int .i64 ((i : Nat) : Int), .pointer (some ⟨b, off + i * 4, none⟩), RV x, .slice (some ⟨b0, off0, none⟩) l1.length cap1, .int .i64 ((i : Nat) : Int), .pointer (some ⟨b0, off0 + i * 4, none⟩), RV y, RV (x * y % ordR), RV ((S + x * y % ordR) % ordR), u68, u69, u70, u71, u72, u73, u74, u75, u76, u77, u78, u79, u80, u81, u82, u83]) hq1 ⟨
      oG rR (fun _ w hs => (hbx2.up hs.bel).cells), oM, oM, oIS (n := l0.length) (c := cap0) i Tryz.underlying22 rR.size (by omega), oLW rR (fun L w hs => ⟨_, _, rfl, rangeR (hRR i x hx) (hbel2.trans (hs.bel.mono hbel2.size))⟩), oM, oM, oIS (n := l1.length) (c := cap1) i Tryz.underlying22 rR.size (by omega), oLW rR (fun L w hs => ⟨_, _, rfl, rangeR (hSS i y hy) (hbel2.trans (hs.bel.mono hbel2.size))⟩), oR (mulR hxr hyr), oH (v := RV ((S + x * y % ordR) % ordR)) (vs := #[RV S, RV (x * y % ordR)]) (fun w _ _ => addR hSR (Nat.mod_lt _ ordR_pos) w), trivial⟩ (fun L9 w10 hp10 ha10 => ?_)
        refine tail1 (by kernel_rfl) (wpOp_of rfl rfl (wp_storeR (cs := RC S) (new := RC ((S + x * y % ordR) % ordR)) rR rfl (by kernel_rfl) (by kernel_rfl) (by kernel_rfl) (by kernel_rfl) (by kernel_rfl) (hbx2.up hp10.bel) rfl (fun x3 hw3 hbx3 => ?_)))
        have ho3 := (ho2.below hp10.bel).wr hw3 hbB
        have hbel3 := (hbel2.trans (hp10.bel.mono hbel2.size)).trans (hw3.below hwb)
        have hBs3 : B ≤ x3.heap.size := by rw [hw3.size]; exact Nat.le_trans hBs2 hp10.bel.size
        have hq3 := Heap.start x3
        refine k14 _ _ _ ?_
        refine block_normal ?_
        refine k13 _ _ ?_
        refine gs [.det (.int .i64 ((i : Nat) : Int)), .det (.int .i64 ((i + 1 : Nat) : Int)), .det (.int .i64 ((i + 1 : Nat) : Int))] [0, 1, 2] [0, 1, 3] (fun L => [.slice (some ⟨b, off, none⟩) l0.length cap0, .slice (some ⟨b0, off0, none⟩) l1.length cap1, .bool false, u3, u4, u5, .bool false, v2, L4.p 0, .int .i64 ((i + 1 : Nat) : Int), u10, u11, u12, u13, u14, u15, u16, u17, u18, u19, .int .i64 ((i : Nat) : Int), .slice (some ⟨b, off, none⟩) l0.length cap0, .int .i64 l0.length, .slice (some ⟨b0, off0, none⟩) l1.length cap1, .int .i64 l1.length, .int .i64 ((n0 : Nat) : Int), .bool true, .int .i64 ((i : Nat) : Int), .int .i64 ((i + 1 : Nat) : Int), .slice (some ⟨b, off, none⟩) l0.length cap0, .int .i64 ((i : Nat) : Int), .pointer (some ⟨b, off + i * 4, none⟩), RV x, .bool true, .bool false, .bool false, .slice (some ⟨b0, off0, none⟩) l1.length cap1, .int .i64 ((i : Nat) : Int), .pointer (some ⟨b0, off0 + i * 4, none⟩), RV y, .bool true, .bool false, .bool false, v, .slice (some ⟨b, off, none⟩) l0.length cap0, .int .i64 ((i : Nat) : Int), .pointer (some ⟨b, off + i * 4, none⟩), RV x, GV (gp (mul finv x g1)), .slice (some ⟨b0, off0, none⟩) l1.length cap1, .int .i64 ((i : Nat) : Int), .pointer (some ⟨b0, off0 + i * 4, none⟩), RV y, T2.GV (T2.gp (mul F2.inv y g2)), ZV ⟨(gp (mul finv x g1)), (T2.gp (mul F2.inv y g2))⟩, (L8.v 12), v2, RV S, .slice (some ⟨b, off, none⟩) l0.length cap0, .int .i64 ((i : Nat) : Int), .pointer (some ⟨b, off + i * 4, none⟩), RV x, .slice (some ⟨b0, off0, none⟩) l1.length cap1, .int .i64 ((i : Nat) : Int), .pointer (some ⟨b0, off0 + i * 4, none⟩), RV y, RV (x * y % ordR), RV ((S + x * y % ordR) % ordR), u68, u69, u70, u71, u72, u73, u74, u75, u76, u77, u78, u79, u80, u81, u82, u83]) (fun L => []) hq3 ⟨
          oM, oJ .i64 .i64 ((i : Nat) : Int) 1 (h := fun w => add1N _ i (by omega) w), oA,
          trivial⟩ (fun L10 w11 hp11 => ?_)
        have hz : (l0.zip l1)[i]? = some (x, y) := List.getElem?_zip_eq_some.2 ⟨hx, hy⟩
        exact ⟨L - 1, by omega, i + 1, v2, u3, u4, u5, u10, u11, u12, u13, u14, u15, u16, u17, u18, u19, .int .i64 ((i : Nat) : Int), .slice (some ⟨b, off, none⟩) l0.length cap0, .int .i64 l0.length, .slice (some ⟨b0, off0, none⟩) l1.length cap1, .int .i64 l1.length, .int .i64 ((n0 : Nat) : Int), .bool true, .int .i64 ((i : Nat) : Int), .int .i64 ((i + 1 : Nat) : Int), .slice (some ⟨b, off, none⟩) l0.length cap0, .int .i64 ((i : Nat) : Int), .pointer (some ⟨b, off + i * 4, none⟩), RV x, .bool true, .bool false, .bool false, .slice (some ⟨b0, off0, none⟩) l1.length cap1, .int .i64 ((i : Nat) : Int), .pointer (some ⟨b0, off0 + i * 4, none⟩), RV y, .bool true, .bool false, .bool false, v, .slice (some ⟨b, off, none⟩) l0.length cap0, .int .i64 ((i : Nat) : Int), .pointer (some ⟨b, off + i * 4, none⟩), RV x, GV (gp (mul finv x g1)), .slice (some ⟨b0, off0, none⟩) l1.length cap1, .int .i64 ((i : Nat) : Int), .pointer (some ⟨b0, off0 + i * 4, none⟩), RV y, T2.GV (T2.gp (mul F2.inv y g2)), ZV ⟨(gp (mul finv x g1)), (T2.gp (mul F2.inv y g2))⟩, (L8.v 12), v2, RV S, .slice (some ⟨b, off, none⟩) l0.length cap0, .int .i64 ((i : Nat) : Int), .pointer (some ⟨b, off + i * 4, none⟩), RV x, .slice (some ⟨b0, off0, none⟩) l1.length cap1, .int .i64 ((i : Nat) : Int), .pointer (some ⟨b0, off0 + i * 4, none⟩), RV y, RV (x * y % ordR), RV ((S + x * y % ordR) % ordR), u68, u69, u70, u71, u72, u73, u74, u75, u76, u77, u78, u79, u80, u81, u82, u83, by kernel_rfl, by omega, all_nextZ hz hlt ⟨hxr, hyr⟩, by rw [take_nextZ hz]; exact ho3.below hp11.bel, by rw [← ssum_next hz, ← hS]; exact hbx3.up hp11.bel, hbel3.trans (hp11.bel.mono hbel3.size), Nat.le_trans hBs3 hp11.bel.size⟩
      · skip
        refine wp_seq_k (fun K18 k18 => ?_)
        refine wp_seq_k (fun K19 k19 => ?_)
        refine gs [.det (.int .i64 ((i : Nat) : Int)), .det (.slice (some ⟨b, off, none⟩) l0.length cap0), .det (.int .i64 l0.length), .det (.slice (some ⟨b0, off0, none⟩) l1.length cap1), .det (.int .i64 l1.length), .det (.int .i64 ((n0 : Nat) : Int)), .det (.bool true)] [0, 1, 2, 3, 4, 5, 6] [0, 0, 2, 0, 8, 30, 63] (fun L => [.slice (some ⟨b, off, none⟩) l0.length cap0, .slice (some ⟨b0, off0, none⟩) l1.length cap1, .bool false, u3, u4, u5, .bool false, v, L4.p 0, .int .i64 ((i : Nat) : Int), u10, u11, u12, u13, u14, u15, u16, u17, u18, u19, .int .i64 ((i : Nat) : Int), .slice (some ⟨b, off, none⟩) l0.length cap0, .int .i64 l0.length, .slice (some ⟨b0, off0, none⟩) l1.length cap1, .int .i64 l1.length, .int .i64 ((n0 : Nat) : Int), .bool true, u27, u28, u29, u30, u31, u32, u33, u34, u35, u36, u37, u38, u39, u40, u41, u42, u43, u44, u45, u46, u47, u48, u49, u50, u51, u52, u53, u54, u55, u56, u57, u58, u59, u60, u61, u62, u63, u64, u65, u66, u67, u68, u69, u70, u71, u72, u73, u74, u75, u76, u77, u78, u79, u80, u81, u82, u83]) (fun L => []) hq ⟨
          oM, oM, fun h => ⟨ob_len (p := (some ⟨b, off, none⟩)) (n := l0.length) (c := cap0) (fun _ => rfl) h rfl (fun _ => by kernel_rfl) Tryz.underlying22⟩,
          oM, fun h => ⟨ob_len (p := (some ⟨b0, off0, none⟩)) (n := l1.length) (c := cap1) (fun _ => rfl) h rfl (fun _ => by kernel_rfl) Tryz.underlying22⟩,
          oMn (m := l0.length) (n := l1.length) hmin, oJ .i64 .i64 ((i : Nat) : Int) ((n0 : Nat) : Int) (h := fun w => (lssI _ _ _ w).trans (by rw [decide_eq_true (by omega)])),
          trivial⟩ (fun L11 w12 hp12 => ?_)
        refine k19 _ _ ?_
        refine wp_cond_true (by kernel_rfl) ?_
        refine skips ?_
        refine k18 _ _ ?_
        refine wp_seq_k (fun K20 k20 => ?_)
        refine wp_block_k (fun K21 k21 => ?_)
        refine wp_seq_k (fun K22 k22 => ?_)
        refine wp_seq_k (fun K23 k23 => ?_)
        refine gs [.det (.slice (some ⟨b, off, none⟩) l0.length cap0), .det (.int .i64 ((i : Nat) : Int)), .det (.pointer (some ⟨b, off + i * 4, none⟩)), .det (RV x), .det (.bool true), .det (.bool false), .det (.bool false), .det (.slice (some ⟨b0, off0, none⟩) l1.length cap1), .det (.int .i64 ((i : Nat) : Int)), .det (.pointer (some ⟨b0, off0 + i * 4, none⟩)), .det (RV y), .det (.bool false), .det (.bool true), .det (.bool true)] [0, 1, 2, 3, 4, 5, 6, 7, 8, 9, 10, 11, 12, 13] [0, 0, 3, 7, 15, 31, 63, 127, 127, 511, 1023, 2047, 4095, 8191] (fun L => [.slice (some ⟨b, off, none⟩) l0.length cap0, .slice (some ⟨b0, off0, none⟩) l1.length cap1, .bool false, u3, u4, u5, .bool false, v, L4.p 0, .int .i64 ((i : Nat) : Int), u10, u11, u12, u13, u14, u15, u16, u17, u18, u19, .int .i64 ((i : Nat) : Int), .slice (some ⟨b, off, none⟩) l0.length cap0, .int .i64 l0.length, .slice (some ⟨b0, off0, none⟩) l1.length cap1, .int .i64 l1.length, .int .i64 ((n0 : Nat) : Int), .bool true, u27, u28, .slice (some ⟨b, off, none⟩) l0.length cap0, .int .i64 ((i : Nat) : Int), .pointer (some ⟨b, off + i * 4, none⟩), RV x, .bool true, .bool false, .bool false, .slice (some ⟨b0, off0, none⟩) l1.length cap1, .int .i64 ((i : Nat) : Int), .pointer (some ⟨b0, off0 + i * 4, none⟩), RV y, .bool false, .bool true, .bool true, u43, u44, u45, u46, u47, u48, u49, u50, u51, u52, u53, u54, u55, u56, u57, u58, u59, u60, u61, u62, u63, u64, u65, u66, u67, u68, u69, u70, u71, u72, u73, u74, u75, u76, u77, u78, u79, u80, u81, u82, u83]) (fun L => []) hp12 ⟨
          oM, oM, oIS (n := l0.length) (c := cap0) i Tryz.underlying22 rR.size (by omega), oLW rR (fun L w hs => ⟨_, _, rfl, rangeR (hRR i x hx) (hbel.trans (hs.bel.mono hbel.size))⟩),
          oH (v := .bool true) (vs := #[RV x]) (fun w _ _ => by have h := mayR hx6 w; rw [decide_eq_true hxr] at h; exact h), oN, oM, oM, oM, oIS (n := l1.length) (c := cap1) i Tryz.underlying22 rR.size (by omega),
          oLW rR (fun L w hs => ⟨_, _, rfl, rangeR (hSS i y hy) (hbel.trans (hs.bel.mono hbel.size))⟩), oH (v := .bool false) (vs := #[RV y]) (fun w _ _ => by have h := mayR hy6 w; rw [decide_eq_false hyr] at h; exact h),
          oN, oP,
          trivial⟩ (fun L12 w13 hp13 => ?_)
        refine k23 _ _ ?_
        refine wp_cond_true (by kernel_rfl) ?_
        refine wp_seq_k (fun K24 k24 => ?_)
        refine gs [.det (.bool true)] [0] [0] (fun L => [.slice (some ⟨b, off, none⟩) l0.length cap0, .slice (some ⟨b0, off0, none⟩) l1.length cap1, .bool false, u3, u4, u5, .bool true, v, L4.p 0, .int .i64 ((i : Nat) : Int), u10, u11, u12, u13, u14, u15, u16, u17, u18, u19, .int .i64 ((i : Nat) : Int), .slice (some ⟨b, off, none⟩) l0.length cap0, .int .i64 l0.length, .slice (some ⟨b0, off0, none⟩) l1.length cap1, .int .i64 l1.length, .int .i64 ((n0 : Nat) : Int), .bool true, u27, u28, .slice (some ⟨b, off, none⟩) l0.length cap0, .int .i64 ((i : Nat) : Int), .pointer (some ⟨b, off + i * 4, none⟩), RV x, .bool true, .bool false, .bool false, .slice (some ⟨b0, off0, none⟩) l1.length cap1, .int .i64 ((i : Nat) : Int), .pointer (some ⟨b0, off0 + i * 4, none⟩), RV y, .bool false, .bool true, .bool true, u43, u44, u45, u46, u47, u48, u49, u50, u51, u52, u53, u54, u55, u56, u57, u58, u59, u60, u61, u62, u63, u64, u65, u66, u67, u68, u69, u70, u71, u72, u73, u74, u75, u76, u77, u78, u79, u80, u81, u82, u83]) (fun L => []) hp13 ⟨
          oA,
          trivial⟩ (fun L13 w14 hp14 => ?_)
        refine k24 _ _ ?_
        refine wp_ret ?_
        refine k21 _ _ _ ?_
        refine k10 _ _ _ ?_
        refine bodyPost_ret (v := .bool true) ?_ rfl ?_
        · exact res_t rfl (by kernel_rfl) _
        · exact ⟨rfl, hbel.trans (hp14.bel.mono hbel.size)⟩
    · skip
      refine wp_seq_k (fun K25 k25 => ?_)
      refine wp_seq_k (fun K26 k26 => ?_)
      refine gs [.det (.int .i64 ((i : Nat) : Int)), .det (.slice (some ⟨b, off, none⟩) l0.length cap0), .det (.int .i64 l0.length), .det (.slice (some ⟨b0, off0, none⟩) l1.length cap1), .det (.int .i64 l1.length), .det (.int .i64 ((n0 : Nat) : Int)), .det (.bool true)] [0, 1, 2, 3, 4, 5, 6] [0, 0, 2, 0, 8, 30, 63] (fun L => [.slice (some ⟨b, off, none⟩) l0.length cap0, .slice (some ⟨b0, off0, none⟩) l1.length cap1, .bool false, u3, u4, u5, .bool false, v, L4.p 0, .int .i64 ((i : Nat) : Int), u10, u11, u12, u13, u14, u15, u16, u17, u18, u19, .int .i64 ((i : Nat) : Int), .slice (some ⟨b, off, none⟩) l0.length cap0, .int .i64 l0.length, .slice (some ⟨b0, off0, none⟩) l1.length cap1, .int .i64 l1.length, .int .i64 ((n0 : Nat) : Int), .bool true, u27, u28, u29, u30, u31, u32, u33, u34, u35, u36, u37, u38, u39, u40, u41, u42, u43, u44, u45, u46, u47, u48, u49, u50, u51, u52, u53, u54, u55, u56, u57, u58, u59, u60, u61, u62, u63, u64, u65, u66, u67, u68, u69, u70, u71, u72, u73, u74, u75, u76, u77, u78, u79, u80, u81, u82, u83]) (fun L => []) hq ⟨
        oM, oM, fun h => ⟨ob_len (p := (some ⟨b, off, none⟩)) (n := l0.length) (c := cap0) (fun _ => rfl) h rfl (fun _ => by kernel_rfl) Tryz.underlying22⟩,
        oM, fun h => ⟨ob_len (p := (some ⟨b0, off0, none⟩)) (n := l1.length) (c := cap1) (fun _ => rfl) h rfl (fun _ => by kernel_rfl) Tryz.underlying22⟩,
        oMn (m := l0.length) (n := l1.length) hmin, oJ .i64 .i64 ((i : Nat) : Int) ((n0 : Nat) : Int) (h := fun w => (lssI _ _ _ w).trans (by rw [decide_eq_true (by omega)])),
        trivial⟩ (fun L14 w15 hp15 => ?_)
      refine k26 _ _ ?_
      refine wp_cond_true (by kernel_rfl) ?_
      refine skips ?_
      refine k25 _ _ ?_
      refine wp_seq_k (fun K27 k27 => ?_)
      refine wp_block_k (fun K28 k28 => ?_)
      refine wp_seq_k (fun K29 k29 => ?_)
      refine wp_seq_k (fun K30 k30 => ?_)
      refine gs [.det (.slice (some ⟨b, off, none⟩) l0.length cap0), .det (.int .i64 ((i : Nat) : Int)), .det (.pointer (some ⟨b, off + i * 4, none⟩)), .det (RV x), .det (.bool false), .det (.bool true), .det (.bool true), .det undef, .det undef, .det undef, .det undef, .det undef, .det undef, .det (.bool true)] [0, 1, 2, 3, 4, 5, 6, 7, 8, 9, 10, 11, 12, 13] [0, 0, 3, 7, 15, 31, 63, 127, 127, 511, 1023, 2047, 4095, 8191] (fun L => [.slice (some ⟨b, off, none⟩) l0.length cap0, .slice (some ⟨b0, off0, none⟩) l1.length cap1, .bool false, u3, u4, u5, .bool false, v, L4.p 0, .int .i64 ((i : Nat) : Int), u10, u11, u12, u13, u14, u15, u16, u17, u18, u19, .int .i64 ((i : Nat) : Int), .slice (some ⟨b, off, none⟩) l0.length cap0, .int .i64 l0.length, .slice (some ⟨b0, off0, none⟩) l1.length cap1, .int .i64 l1.length, .int .i64 ((n0 : Nat) : Int), .bool true, u27, u28, .slice (some ⟨b, off, none⟩) l0.length cap0, .int .i64 ((i : Nat) : Int), .pointer (some ⟨b, off + i * 4, none⟩), RV x, .bool false, .bool true, .bool true, undef, undef, undef, undef, undef, undef, .bool true, u43, u44, u45, u46, u47, u48, u49, u50, u51, u52, u53, u54, u55, u56, u57, u58, u59, u60, u61, u62, u63, u64, u65, u66, u67, u68, u69, u70, u71, u72, u73, u74, u75, u76, u77, u78, u79, u80, u81, u82, u83]) (fun L => []) hp15 ⟨
        oM, oM, oIS (n := l0.length) (c := cap0) i Tryz.underlying22 rR.size (by omega), oLW rR (fun L w hs => ⟨_, _, rfl, rangeR (hRR i x hx) (hbel.trans (hs.bel.mono hbel.size))⟩),
        oH (v := .bool false) (vs := #[RV x]) (fun w _ _ => by have h := mayR hx6 w; rw [decide_eq_false hxr] at h; exact h), oN, oM, oS, oS, oS, oS, oS, oS, oP,
        trivial⟩ (fun L15 w16 hp16 => ?_)
      refine k30 _ _ ?_
      refine wp_cond_true (by kernel_rfl) ?_
      refine wp_seq_k (fun K31 k31 => ?_)
      refine gs [.det (.bool true)] [0] [0] (fun L => [.slice (some ⟨b, off, none⟩) l0.length cap0, .slice (some ⟨b0, off0, none⟩) l1.length cap1, .bool false, u3, u4, u5, .bool true, v, L4.p 0, .int .i64 ((i : Nat) : Int), u10, u11, u12, u13, u14, u15, u16, u17, u18, u19, .int .i64 ((i : Nat) : Int), .slice (some ⟨b, off, none⟩) l0.length cap0, .int .i64 l0.length, .slice (some ⟨b0, off0, none⟩) l1.length cap1, .int .i64 l1.length, .int .i64 ((n0 : Nat) : Int), .bool true, u27, u28, .slice (some ⟨b, off, none⟩) l0.length cap0, .int .i64 ((i : Nat) : Int), .pointer (some ⟨b, off + i * 4, none⟩), RV x, .bool false, .bool true, .bool true, undef, undef, undef, undef, undef, undef, .bool true, u43, u44, u45, u46, u47, u48, u49, u50, u51, u52, u53, u54, u55, u56, u57, u58, u59, u60, u61, u62, u63, u64, u65, u66, u67, u68, u69, u70, u71, u72, u73, u74, u75, u76, u77, u78, u79, u80, u81, u82, u83]) (fun L => []) hp16 ⟨
        oA,
        trivial⟩ (fun L16 w17 hp17 => ?_)
      refine k31 _ _ ?_
      refine wp_ret ?_
      refine k28 _ _ _ ?_
      refine k10 _ _ _ ?_
      refine bodyPost_ret (v := .bool true) ?_ rfl ?_
      · exact res_t rfl (by kernel_rfl) _
      · exact ⟨rfl, hbel.trans (hp17.bel.mono hbel.size)⟩
  obtain rfl : i = n0 := by omega
  have hzz : (l0.zip l1).take i = l0.zip l1 := List.take_of_length_le (by rw [List.length_zip]; omega)
  have hzl : (l0.zip l1).length ≤ 3 := by rw [List.length_zip]; omega
  rw [hzz] at hOwn hS
  refine wp_seq_k (fun K32 k32 => ?_)
  refine wp_seq_k (fun K33 k33 => ?_)
  refine gs [.det (.int .i64 ((i : Nat) : Int)), .det (.slice a0 l0.length cap0), .det (.int .i64 l0.length), .det (.slice a1 l1.length cap1), .det (.int .i64 l1.length), .det (.int .i64 ((i : Nat) : Int)), .det (.bool false)] [0, 1, 2, 3, 4, 5, 6] [0, 0, 2, 0, 8, 30, 63] (fun L => [.slice a0 l0.length cap0, .slice a1 l1.length cap1, .bool false, u3, u4, u5, .bool false, v, L4.p 0, .int .i64 ((i : Nat) : Int), u10, u11, u12, u13, u14, u15, u16, u17, u18, u19, .int .i64 ((i : Nat) : Int), .slice a0 l0.length cap0, .int .i64 l0.length, .slice a1 l1.length cap1, .int .i64 l1.length, .int .i64 ((i : Nat) : Int), .bool false, u27, u28, u29, u30, u31, u32, u33, u34, u35, u36, u37, u38, u39, u40, u41, u42, u43, u44, u45, u46, u47, u48, u49, u50, u51, u52, u53, u54, u55, u56, u57, u58, u59, u60, u61, u62, u63, u64, u65, u66, u67, u68, u69, u70, u71, u72, u73, u74, u75, u76, u77, u78, u79, u80, u81, u82, u83]) (fun L => []) hq ⟨
    oM, oM, fun h => ⟨ob_len (p := a0) (n := l0.length) (c := cap0) (fun _ => rfl) h rfl (fun _ => by kernel_rfl) Tryz.underlying22⟩, oM, fun h => ⟨ob_len (p := a1) (n := l1.length) (c := cap1) (fun _ => rfl) h rfl (fun _ => by kernel_rfl) Tryz.underlying22⟩,
    oMn (m := l0.length) (n := l1.length) hmin, oJ .i64 .i64 ((i : Nat) : Int) ((i : Nat) : Int) (h := fun w => (lssI _ _ _ w).trans (by rw [decide_eq_false (by omega)])),
    trivial⟩ (fun L17 w18 hp18 => ?_)
  refine k33 _ _ ?_
  refine wp_cond_false (by kernel_rfl) ?_
  refine wp_exit ?_
  refine then_exit ?_
  refine then_exit ?_
  refine k10 _ _ _ ?_
  refine exit_in ?_
  refine k8 _ _ ?_
  refine wp_seq_k (fun K34 k34 => ?_)
  refine wp_seq_k (fun K35 k35 => ?_)
  refine gs [.det (.bool false)] [0] [0] (fun L => [.slice a0 l0.length cap0, .slice a1 l1.length cap1, .bool false, u3, u4, u5, .bool false, v, L4.p 0, .int .i64 ((i : Nat) : Int), u10, u11, u12, u13, u14, u15, u16, u17, u18, u19, .int .i64 ((i : Nat) : Int), .slice a0 l0.length cap0, .int .i64 l0.length, .slice a1 l1.length cap1, .int .i64 l1.length, .int .i64 ((i : Nat) : Int), .bool false, u27, u28, u29, u30, u31, u32, u33, u34, u35, u36, u37, u38, u39, u40, u41, u42, u43, u44, u45, u46, u47, u48, u49, u50, u51, u52, u53, u54, u55, u56, u57, u58, u59, u60, u61, u62, u63, u64, u65, u66, u67, .bool false, u69, u70, u71, u72, u73, u74, u75, u76, u77, u78, u79, u80, u81, u82, u83]) (fun L => []) hp18 ⟨
    oM,
    trivial⟩ (fun L18 w19 hp19 => ?_)
  refine k35 _ _ ?_
  refine wp_cond_false (by kernel_rfl) ?_
  refine skips ?_
  refine k34 _ _ ?_
  refine wp_seq_k (fun K36 k36 => ?_)
  have hOwn := hOwn.below hp19.bel
  obtain ⟨LL, hLe⟩ : ∃ LL, LL = l0.zip l1 := ⟨_, rfl⟩
  rw [← hLe] at hOwn
  have hL20 : LL.length ≤ 20 := by rw [hLe]; omega
  obtain ⟨pp, cp, rfl, hcp, hcp2, hAZ⟩ := hOwn.at
  obtain ⟨sb, hsb⟩ : ∃ sb, decide (S = 0) = sb := ⟨_, rfl⟩
  have hLL : decide (zsum LL % ordR = 0) = sb := by rw [← hsb, hLe, hS, ssum_zsum]
  have hbE := hbel.trans (hp19.bel.mono hbel.size)
  have hg := K.stay hgw hbE
  have hbxE := hbx.up hp19.bel
  have hqE := Heap.start w19
  refine dr [.det (.slice pp LL.length cp), .det (.bool sb), .det (RV S), .det (RV 0), .det (.bool sb), .det (.bool true), .det (.bool true)] [0, 1, 2, 3, 4, 5, 6] [0, 1, 0, 0, 12, 31, 63] (fun L => [.slice a0 l0.length cap0, .slice a1 l1.length cap1, .bool false, u3, u4, u5, .bool true, .slice pp LL.length cp, L4.p 0, .int .i64 ((i : Nat) : Int), u10, u11, u12, u13, u14, u15, u16, u17, u18, u19, .int .i64 ((i : Nat) : Int), .slice a0 l0.length cap0, .int .i64 l0.length, .slice a1 l1.length cap1, .int .i64 l1.length, .int .i64 ((i : Nat) : Int), .bool false, u27, u28, u29, u30, u31, u32, u33, u34, u35, u36, u37, u38, u39, u40, u41, u42, u43, u44, u45, u46, u47, u48, u49, u50, u51, u52, u53, u54, u55, u56, u57, u58, u59, u60, u61, u62, u63, u64, u65, u66, u67, .bool false, u69, u70, u71, u72, u73, u74, u75, u76, u77, .slice pp LL.length cp, .bool sb, RV S, RV 0, .bool sb, .bool true]) (fun L => []) hqE ⟨
    oM, oH (v := .bool sb) (vs := #[.slice pp LL.length cp]) (fun w hb _ => by have h := K.check LL pp _ cp w (K.stay hg hb) hL20 rfl hcp hcp2 (AtZ.up (B := 0) hAZ hb); rw [hLL] at h; exact h),
    oG rR (fun _ w hs => (hbxE.up hs.bel).cells), oD buildRn, oW (u := RV S) (v := RV 0) (r := .bool sb) (fun w => guardR _ _ _ _ _ w) (fun w => eqlR0 hS6 _ hsb w),
    oE (a := sb) (b := sb) qB (yes rfl), oA,
    trivial⟩ (fun L19 w20 hp20 => ?_)
  refine k36 _ _ ?_
  refine wp_ret ?_
  refine bodyPost_ret (v := .bool true) ?_ rfl ?_
  · exact res_t rfl (by kernel_rfl) _
  · exact ⟨rfl, hbE.trans (hp20.bel.mono hbE.size)⟩
theorem pairingChecks_walk {G : World → Prop} (K : PairK G) (R : RefK) (a0 a1 : Option Addr) (len0 cap0 len1 cap1 : Nat) (l0 l1 : List Nat) (ft : Bool) (w : World) (h0 : l0.length = len0 ∧ len0 ≤ cap0 ∧ cap0 ≤ maxLen ∧ (∀ n ∈ l0, n < 2 ^ 256) ∧ AtR w a0 l0) (h1 : l1.length = len1 ∧ len1 ≤ cap1 ∧ cap1 ≤ maxLen ∧ (∀ n ∈ l1, n < 2 ^ 256) ∧ AtR w a1 l1) (hg : G w) :
    Calls Tryz.prog 3 #[.slice a0 len0 cap0, .slice a1 len1 cap1, .bool ft] w (Ret (.bool true) w) := by
  obtain ⟨rfl, hc0, _, hk0, hA0⟩ := h0
  obtain ⟨rfl, hc1, _, hk1, hA1⟩ := h1
  rcases Nat.lt_or_ge 3 l0.length with c | c
  · exact checks0 K R gen1 gen2 a0 a1 l0 l1 cap0 cap1 ft w hg rfl rfl gen1_on gen2_on c
  · rcases Nat.lt_or_ge 3 l1.length with c1 | c1
    · exact checks1 K R gen1 gen2 a0 a1 l0 l1 cap0 cap1 ft w hg rfl rfl gen1_on gen2_on c c1
    · cases ft
      · exact checks3 K R gen1 gen2 a0 a1 l0 l1 cap0 cap1 w hg rfl rfl gen1_on gen2_on c c1 hk0 hk1 hA0 hA1
      · exact checks2 K R gen1 gen2 a0 a1 l0 l1 cap0 cap1 w hg rfl rfl gen1_on gen2_on c c1 hk0 hk1 hA0 hA1
end Go.Proofs.YthnfgmhehfombaaGreatDoor.fpn
