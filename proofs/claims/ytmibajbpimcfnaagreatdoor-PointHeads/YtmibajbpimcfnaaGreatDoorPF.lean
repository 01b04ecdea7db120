/- PL6 PL7. -/
import Derived.Test.YtmibajbpimcfnaaGreatDoorPA
import Derived.Test.YtmibajbpimcfnaaGreatDoorGO
import Derived.Test.YtmibajbpimcfnaaGreatDoorGY
import Derived.Test.YtmibajbpimcfnaaGreatDoorPE
/- PointHeads' paths. -/
namespace Go.Proofs.YtmibajbpimcfnaaGreatDoor.fpn
open Go.RowKit Pl EC
set_option linter.unusedVariables false
set_option linter.unusedSimpArgs false
set_option maxRecDepth 4000

theorem conv8n (c : Nat) (hc : c < 256) (w : World) : (convert 5 3 (.int .u8 (c : Int))).run Tryz.prog w = .ok (.int .i64 (c : Int)) w := by
  have e : IntKind.i64.wrap (c : Int) = (c : Int) := by unfold IntKind.wrap; simp [IntKind.bits, IntKind.signed]; omega
  simp [convert, Sem.run_bind, run_underlying Tryz.underlying5, run_underlying Tryz.underlying3, Conv.intToInt, e]
theorem orY (t : TypeId) (a b c : Int) (h : bits .or .u8 a b = c) (w : World) : (binOp .or t (.int .u8 a) (.int .u8 b)).run Tryz.prog w = .ok (.int .u8 c) w := by
  simp [binOp, Sem.run_bind, Op.intBits]
  exact h
set_option maxHeartbeats 4000000 in
theorem headsA {G : World → Prop} (K : PtK G) (R : RefK) (tp at_ xb j : Nat) (tr tv xr vb : Int) (w : World) (hg : G w) (hj0 : at_ % 48 = j) (hj : j < 48) (hat : at_ < 256) (htr : ((tp : Nat) : Int) % 8 = tr) (htv : tr * 32 = tv) (hv : 0 ≤ tv ∧ tv < 256) (hxr : ((xb : Nat) : Int) % 32 = xr) (hor : bits .or .u8 (su (fun _ => 0) 0 tv j) xr = vb) (hr1 : ∀ i, i < 48 → 0 ≤ (su (su (fun _ => 0) 0 tv) j vb) i ∧ (su (su (fun _ => 0) 0 tv) j vb) i < 256) (hr2 : ∀ i, i < 96 → 0 ≤ (su (su (fun _ => 0) 0 tv) j vb) i ∧ (su (su (fun _ => 0) 0 tv) j vb) i < 256) (ht1 : tkA (su (su (fun _ => 0) 0 tv) j vb) 48 = .tuple #[GV ⟨0, 0, false⟩, .int .i64 3]) (ht2 : T2.tkB (su (su (fun _ => 0) 0 tv) j vb) 96 = .tuple #[T2.GV ⟨0, 0, false⟩, .int .i64 3]) (hlss : tr < 4) : Calls Tryz.prog 8 #[.int .u8 ((tp : Nat) : Int), .int .u8 ((at_ : Nat) : Int), .int .u8 ((xb : Nat) : Int)] w (Ret (.bool true) w) := by
  have hp0 := Heap.start w
  go_enter Tryz.func8, Tryz.ntmps8
  refine wp_seq_k (fun K1 k1 => ?_)
  refine gsD [.det (.bool false)] [0] [0] (fun L d => [.int .u8 ((tp : Nat) : Int), .int .u8 ((at_ : Nat) : Int), .int .u8 ((xb : Nat) : Int)] ++ D d 3 128) (fun L => []) hp0 ⟨
    oA,
    trivial⟩ (fun L0 _ w1 hp1 => ?_)
  refine k1 _ _ ?_
  refine wp_seq_k (fun K2 k2 => ?_)
  refine wp_seq_k (fun K3 k3 => ?_)
  refine gsD [.det (.bool true), .det (.bool false)] [0, 1] [0, 1] (fun L d => [.int .u8 ((tp : Nat) : Int), .int .u8 ((at_ : Nat) : Int), .int .u8 ((xb : Nat) : Int)] ++ (D d 3 15 ++ ([.bool false] ++ D d 19 112))) (fun L => []) hp1 ⟨
    oC K.stay hg (begun10 K R), oN,
    trivial⟩ (fun L1 _ w2 hp2 => ?_)
  refine k3 _ _ ?_
  refine wp_cond_false (by kernel_rfl) ?_
  refine skips ?_
  refine k2 _ _ ?_
  refine wp_seq_k (fun K4 k4 => ?_)
  refine drD [.alloc (BC (fun _ => 0) 48), .alloc (BC (fun _ => 0) 96), .detB 0 (fun b => .slice (some ⟨b, 0, none⟩) 48 48), .detB 1 (fun b => .slice (some ⟨b, 0, none⟩) 96 96)] [0, 1, 2, 3] [0, 0, 1, 7] (fun L d => [.int .u8 ((tp : Nat) : Int), .int .u8 ((at_ : Nat) : Int), .int .u8 ((xb : Nat) : Int)] ++ (D d 3 4 ++ ([.slice (some ⟨L.b 0, 0, none⟩) 48 48, .slice (some ⟨L.b 1, 0, none⟩) 96 96] ++ D d 9 122))) (fun L => [(L.b 0, BC (fun _ => 0) 48), (L.b 1, BC (fun _ => 0) 96)]) hp2 ⟨
    oMa (by decide) (by decide), oMa (by decide) (by decide), oAN, oAN,
    trivial⟩ (fun L2 _ w3 hp3 => ?_)
  refine k4 _ _ ?_
  refine wp_seq_k (fun K5 k5 => ?_)
  refine gsD [.det (.slice (some ⟨(L2.b 0), 0, none⟩) 48 48), .det (.slice (some ⟨(L2.b 1), 0, none⟩) 96 96), .det (.int .u8 ((tp : Nat) : Int)), .det (.int .u8 tr), .det (.int .u8 tv), .det (.int .u8 ((tp : Nat) : Int)), .det (.int .u8 tr), .det (.int .u8 tv), .det (L2.p 0), .store (.base 0) 0 ([.int .u8 tv]) (BC (su (fun _ => 0) 0 tv) 48), .det (L2.p 1), .store (.base 1) 0 ([.int .u8 tv]) (BC (su (fun _ => 0) 0 tv) 96)] [0, 1, 2, 3, 4, 5, 6, 7, 8, 9, 10, 11] [0, 0, 0, 4, 12, 0, 32, 96, 29, 285, 1023, 2047] (fun L d => [.int .u8 ((tp : Nat) : Int), .int .u8 ((at_ : Nat) : Int), .int .u8 ((xb : Nat) : Int)] ++ (D d 3 4 ++ ([.slice (some ⟨(L2.b 0), 0, none⟩) 48 48, .slice (some ⟨(L2.b 1), 0, none⟩) 96 96] ++ D d 9 122))) (fun L => [(L2.b 0, BC (su (fun _ => 0) 0 tv) 48), (L2.b 1, BC (su (fun _ => 0) 0 tv) 96)]) hp3 ⟨
    oM, oM, oM, oJ .u8 .u8 ((tp : Nat) : Int) 8 (h := fun w => remY _ _ _ _ htr (by omega) (by decide) w), oJ .u8 .u8 tr 32 (h := fun w => mulY _ _ _ _ htv hv w),
    oM, oJ .u8 .u8 ((tp : Nat) : Int) 8 (h := fun w => remY _ _ _ _ htr (by omega) (by decide) w), oJ .u8 .u8 tr 32 (h := fun w => mulY _ _ _ _ htv hv w), oIS (b := (L2.b 0)) (off := 0) (n := 48) (c := 48) (sz := 1) 0 Tryz.underlying45 sizeY (by decide),
    oT1 oneY, oIS (b := (L2.b 1)) (off := 0) (n := 96) (c := 96) (sz := 1) 0 Tryz.underlying45 sizeY (by decide), oT1 oneY,
    trivial⟩ (fun L3 _ w4 hp4 => ?_)
  refine k5 _ _ ?_
  refine wp_seq_k (fun K6 k6 => ?_)
  refine gsD [.det (.slice (some ⟨(L2.b 0), 0, none⟩) 48 48), .det (.int .u8 ((at_ : Nat) : Int)), .det (.int .i64 ((at_ : Nat) : Int)), .det (.int .i64 ((j : Nat) : Int)), .det (.pointer (some ⟨(L2.b 0), 0 + j * 1, none⟩)), .det (.int .u8 (su (fun _ => 0) 0 tv j)), .det (.int .u8 ((xb : Nat) : Int)), .det (.int .u8 xr), .det (.int .u8 vb), .det (.pointer (some ⟨(L2.b 0), 0 + j * 1, none⟩)), .store (.base 0) (0 + j * 1) ([.int .u8 vb]) (BC (su (su (fun _ => 0) 0 tv) j vb) 48)] [0, 1, 2, 3, 4, 5, 6, 7, 8, 9, 10] [0, 0, 2, 6, 15, 31, 0, 64, 255, 511, 1023] (fun L d => [.int .u8 ((tp : Nat) : Int), .int .u8 ((at_ : Nat) : Int), .int .u8 ((xb : Nat) : Int)] ++ (D d 3 4 ++ ([.slice (some ⟨(L2.b 0), 0, none⟩) 48 48, .slice (some ⟨(L2.b 1), 0, none⟩) 96 96] ++ D d 9 122))) (fun L => [(L2.b 0, BC (su (su (fun _ => 0) 0 tv) j vb) 48), (L2.b 1, BC (su (fun _ => 0) 0 tv) 96)]) hp4 ⟨
    oM, oM, oCv (conv8n at_ hat), oJ .i64 .i64 ((at_ : Nat) : Int) 48 (h := fun w => remN _ at_ 48 j (by decide) (by omega) hj0 w), oIS (n := 48) (c := 48) j Tryz.underlying45 sizeY (show j < 48 by omega),
    oLY 0 (show j < 48 by omega), oM, oJ .u8 .u8 ((xb : Nat) : Int) 32 (h := fun w => remY _ _ _ _ hxr (by omega) (by decide) w), oJ .u8 .u8 (su (fun _ => 0) 0 tv j) xr (h := fun w => orY _ _ _ _ hor w),
    oIS (n := 48) (c := 48) j Tryz.underlying45 sizeY (show j < 48 by omega), oTY (j := j) (show j < 48 by omega),
    trivial⟩ (fun L4 _ w5 hp5 => ?_)
  refine k6 _ _ ?_
  refine wp_seq_k (fun K7 k7 => ?_)
  refine gsD [.det (.slice (some ⟨(L2.b 1), 0, none⟩) 96 96), .det (.int .u8 ((at_ : Nat) : Int)), .det (.int .i64 ((at_ : Nat) : Int)), .det (.int .i64 ((j : Nat) : Int)), .det (.pointer (some ⟨(L2.b 1), 0 + j * 1, none⟩)), .det (.int .u8 (su (fun _ => 0) 0 tv j)), .det (.int .u8 ((xb : Nat) : Int)), .det (.int .u8 xr), .det (.int .u8 vb), .det (.pointer (some ⟨(L2.b 1), 0 + j * 1, none⟩)), .store (.base 1) (0 + j * 1) ([.int .u8 vb]) (BC (su (su (fun _ => 0) 0 tv) j vb) 96)] [0, 1, 2, 3, 4, 5, 6, 7, 8, 9, 10] [0, 0, 2, 6, 15, 31, 0, 64, 255, 511, 1023] (fun L d => [.int .u8 ((tp : Nat) : Int)] ++ (D d 1 6 ++ ([.slice (some ⟨(L2.b 0), 0, none⟩) 48 48, .slice (some ⟨(L2.b 1), 0, none⟩) 96 96] ++ D d 9 122))) (fun L => [(L2.b 0, BC (su (su (fun _ => 0) 0 tv) j vb) 48), (L2.b 1, BC (su (su (fun _ => 0) 0 tv) j vb) 96)]) hp5 ⟨
    oM, oM, oCv (conv8n at_ hat), oJ .i64 .i64 ((at_ : Nat) : Int) 48 (h := fun w => remN _ at_ 48 j (by decide) (by omega) hj0 w), oIS (n := 96) (c := 96) j Tryz.underlying45 sizeY (show j < 96 by omega),
    oLY 1 (show j < 96 by omega), oM, oJ .u8 .u8 ((xb : Nat) : Int) 32 (h := fun w => remY _ _ _ _ hxr (by omega) (by decide) w), oJ .u8 .u8 (su (fun _ => 0) 0 tv j) xr (h := fun w => orY _ _ _ _ hor w),
    oIS (n := 96) (c := 96) j Tryz.underlying45 sizeY (show j < 96 by omega), oTY (j := j) (show j < 96 by omega),
    trivial⟩ (fun L5 _ w6 hp6 => ?_)
  refine k7 _ _ ?_
  refine wp_seq_k (fun K8 k8 => ?_)
  refine gsD [.det (.slice (some ⟨(L2.b 0), 0, none⟩) 48 48), .det (.tuple #[GV ⟨0, 0, false⟩, .int .i64 3]), .det (.tuple #[GV ⟨0, 0, false⟩, .int .i64 3]), .det (GV ⟨0, 0, false⟩), .det (.int .i64 3), .alloc (GC ⟨0, 0, false⟩), .store (.new 5) 0 (GC ⟨0, 0, false⟩) (GC ⟨0, 0, false⟩), .det (.int .i64 3)] [0, 1, 2, 3, 4, 5, 6, 7] [0, 1, 3, 7, 7, 0, 47, 127] (fun L d => [.int .u8 ((tp : Nat) : Int)] ++ (D d 1 7 ++ ([.slice (some ⟨(L2.b 1), 0, none⟩) 96 96, d 9, .int .i64 3] ++ D d 11 120))) (fun L => [(L2.b 0, BC (su (su (fun _ => 0) 0 tv) j vb) 48), (L2.b 1, BC (su (su (fun _ => 0) 0 tv) j vb) 96), (L.b 5, GC ⟨0, 0, false⟩)]) hp6 ⟨
    oM, oCS (fun L => #[.slice (some ⟨(L2.b 0), 0, none⟩) 48 48]) (fun L w hs => by have h := K.take1 _ 48 48 (su (su (fun _ => 0) 0 tv) j vb) w (K.stay hg hs.bel) (Nat.le_refl _) (by decide) (box_at (seen_at hs (k := 0) rfl)) hr1; rw [ht1] at h; exact h),
    oM, oX, oX, oZ rG, oT rG, oA,
    trivial⟩ (fun L6 _ w7 hp7 => ?_)
  refine k8 _ _ ?_
  refine wp_seq_k (fun K9 k9 => ?_)
  refine gsD [.det (.slice (some ⟨(L2.b 1), 0, none⟩) 96 96), .det (.tuple #[T2.GV ⟨0, 0, false⟩, .int .i64 3]), .det (.tuple #[T2.GV ⟨0, 0, false⟩, .int .i64 3]), .det (T2.GV ⟨0, 0, false⟩), .det (.int .i64 3), .alloc (T2.GC ⟨0, 0, false⟩), .store (.new 5) 0 (T2.GC ⟨0, 0, false⟩) (T2.GC ⟨0, 0, false⟩), .det (.int .i64 3)] [0, 1, 2, 3, 4, 5, 6, 7] [0, 1, 3, 7, 7, 0, 47, 127] (fun L d => [.int .u8 ((tp : Nat) : Int)] ++ (D d 1 9 ++ ([.int .i64 3, d 11, .int .i64 3] ++ D d 13 118))) (fun L => [(L2.b 0, BC (su (su (fun _ => 0) 0 tv) j vb) 48), (L2.b 1, BC (su (su (fun _ => 0) 0 tv) j vb) 96), (L6.b 5, GC ⟨0, 0, false⟩), (L.b 5, T2.GC ⟨0, 0, false⟩)]) hp7 ⟨
    oM, oCS (fun L => #[.slice (some ⟨(L2.b 1), 0, none⟩) 96 96]) (fun L w hs => by have h := K.take2 _ 96 96 (su (su (fun _ => 0) 0 tv) j vb) w (K.stay hg hs.bel) (Nat.le_refl _) (by decide) (box_at (seen_at hs (k := 1) rfl)) hr2; rw [ht2] at h; exact h),
    oM, oX, oX, oZ T2.rG, oT T2.rG, oA,
    trivial⟩ (fun L7 _ w8 hp8 => ?_)
  refine k9 _ _ ?_
  refine wp_seq_k (fun K10 k10 => ?_)
  refine wp_seq_k (fun K11 k11 => ?_)
  refine gsD [.det (.int .u8 ((tp : Nat) : Int)), .det (.int .u8 tr), .det (.bool true), .det (.bool true), .det undef, .det undef, .det undef, .det (.bool true)] [0, 1, 2, 3, 4, 5, 6, 7] [0, 1, 3, 7, 15, 31, 63, 127] (fun L d => D d 0 10 ++ ([.int .i64 3, d 11, .int .i64 3] ++ (D d 13 55 ++ ([.bool true] ++ D d 69 62)))) (fun L => [(L2.b 0, BC (su (su (fun _ => 0) 0 tv) j vb) 48), (L2.b 1, BC (su (su (fun _ => 0) 0 tv) j vb) 96), (L6.b 5, GC ⟨0, 0, false⟩), (L7.b 5, T2.GC ⟨0, 0, false⟩)]) hp8 ⟨
    oM, oJ .u8 .u8 ((tp : Nat) : Int) 8 (h := fun w => remY _ _ _ _ htr (by omega) (by decide) w), oJ .u8 .u8 tr 4 (h := fun w => (lssY _ _ _ w).trans (by rw [decide_eq_true hlss])),
    oM, oS, oS, oS, oP,
    trivial⟩ (fun L8 _ w9 hp9 => ?_)
  refine k11 _ _ ?_
  refine wp_cond_true (by kernel_rfl) ?_
  refine wp_seq_k (fun K12 k12 => ?_)
  refine gsD [.det (.int .i64 3), .det (.bool true), .det (.bool true), .det (.int .i64 3), .det (.bool true), .det (.bool true), .det (.bool true)] [0, 1, 2, 3, 4, 5, 6] [0, 1, 3, 7, 15, 31, 63] (fun L d => D d 0 6 ++ ([.bool true] ++ D d 7 124)) (fun L => [(L2.b 0, BC (su (su (fun _ => 0) 0 tv) j vb) 48), (L2.b 1, BC (su (su (fun _ => 0) 0 tv) j vb) 96), (L6.b 5, GC ⟨0, 0, false⟩), (L7.b 5, T2.GC ⟨0, 0, false⟩)]) hp9 ⟨
    oM, oJ .i64 .i64 3 3 (h := fun w => (eqlI _ _ _ _ w).trans rfl), oM, oM, oJ .i64 .i64 3 3 (h := fun w => (eqlI _ _ _ _ w).trans rfl), oP, oA,
    trivial⟩ (fun L9 _ w10 hp10 => ?_)
  refine k12 _ _ ?_
  refine wp_ret ?_
  refine bodyPost_ret (v := .bool true) ?_ rfl ?_
  · exact res_t rfl (by kernel_rfl) _
  · exact ⟨rfl, hp10.bel⟩
set_option maxHeartbeats 4000000 in
theorem headsB {G : World → Prop} (K : PtK G) (R : RefK) (tp at_ xb j : Nat) (tr tv xr vb : Int) (w : World) (hg : G w) (hj0 : at_ % 48 = j) (hj : j < 48) (hat : at_ < 256) (htr : ((tp : Nat) : Int) % 8 = tr) (htv : tr * 32 = tv) (hv : 0 ≤ tv ∧ tv < 256) (hxr : ((xb : Nat) : Int) % 32 = xr) (hor : bits .or .u8 (su (fun _ => 0) 0 tv j) xr = vb) (hr1 : ∀ i, i < 48 → 0 ≤ (su (su (fun _ => 0) 0 tv) j vb) i ∧ (su (su (fun _ => 0) 0 tv) j vb) i < 256) (hr2 : ∀ i, i < 96 → 0 ≤ (su (su (fun _ => 0) 0 tv) j vb) i ∧ (su (su (fun _ => 0) 0 tv) j vb) i < 256) (ht1 : tkA (su (su (fun _ => 0) 0 tv) j vb) 48 = .tuple #[GV ⟨0, 0, false⟩, .int .i64 3]) (ht2 : T2.tkB (su (su (fun _ => 0) 0 tv) j vb) 96 = .tuple #[T2.GV ⟨0, 0, false⟩, .int .i64 3]) (hlss : ¬ tr < 4) (h7 : tr = 7) : Calls Tryz.prog 8 #[.int .u8 ((tp : Nat) : Int), .int .u8 ((at_ : Nat) : Int), .int .u8 ((xb : Nat) : Int)] w (Ret (.bool true) w) := by
  have hp0 := Heap.start w
  go_enter Tryz.func8, Tryz.ntmps8
  refine wp_seq_k (fun K1 k1 => ?_)
  refine gsD [.det (.bool false)] [0] [0] (fun L d => [.int .u8 ((tp : Nat) : Int), .int .u8 ((at_ : Nat) : Int), .int .u8 ((xb : Nat) : Int)] ++ D d 3 128) (fun L => []) hp0 ⟨
    oA,
    trivial⟩ (fun L0 _ w1 hp1 => ?_)
  refine k1 _ _ ?_
  refine wp_seq_k (fun K2 k2 => ?_)
  refine wp_seq_k (fun K3 k3 => ?_)
  refine gsD [.det (.bool true), .det (.bool false)] [0, 1] [0, 1] (fun L d => [.int .u8 ((tp : Nat) : Int), .int .u8 ((at_ : Nat) : Int), .int .u8 ((xb : Nat) : Int)] ++ (D d 3 15 ++ ([.bool false] ++ D d 19 112))) (fun L => []) hp1 ⟨
    oC K.stay hg (begun10 K R), oN,
    trivial⟩ (fun L1 _ w2 hp2 => ?_)
  refine k3 _ _ ?_
  refine wp_cond_false (by kernel_rfl) ?_
  refine skips ?_
  refine k2 _ _ ?_
  refine wp_seq_k (fun K4 k4 => ?_)
  refine drD [.alloc (BC (fun _ => 0) 48), .alloc (BC (fun _ => 0) 96), .detB 0 (fun b => .slice (some ⟨b, 0, none⟩) 48 48), .detB 1 (fun b => .slice (some ⟨b, 0, none⟩) 96 96)] [0, 1, 2, 3] [0, 0, 1, 7] (fun L d => [.int .u8 ((tp : Nat) : Int), .int .u8 ((at_ : Nat) : Int), .int .u8 ((xb : Nat) : Int)] ++ (D d 3 4 ++ ([.slice (some ⟨L.b 0, 0, none⟩) 48 48, .slice (some ⟨L.b 1, 0, none⟩) 96 96] ++ D d 9 122))) (fun L => [(L.b 0, BC (fun _ => 0) 48), (L.b 1, BC (fun _ => 0) 96)]) hp2 ⟨
    oMa (by decide) (by decide), oMa (by decide) (by decide), oAN, oAN,
    trivial⟩ (fun L2 _ w3 hp3 => ?_)
  refine k4 _ _ ?_
  refine wp_seq_k (fun K5 k5 => ?_)
  refine gsD [.det (.slice (some ⟨(L2.b 0), 0, none⟩) 48 48), .det (.slice (some ⟨(L2.b 1), 0, none⟩) 96 96), .det (.int .u8 ((tp : Nat) : Int)), .det (.int .u8 tr), .det (.int .u8 tv), .det (.int .u8 ((tp : Nat) : Int)), .det (.int .u8 tr), .det (.int .u8 tv), .det (L2.p 0), .store (.base 0) 0 ([.int .u8 tv]) (BC (su (fun _ => 0) 0 tv) 48), .det (L2.p 1), .store (.base 1) 0 ([.int .u8 tv]) (BC (su (fun _ => 0) 0 tv) 96)] [0, 1, 2, 3, 4, 5, 6, 7, 8, 9, 10, 11] [0, 0, 0, 4, 12, 0, 32, 96, 29, 285, 1023, 2047] (fun L d => [.int .u8 ((tp : Nat) : Int), .int .u8 ((at_ : Nat) : Int), .int .u8 ((xb : Nat) : Int)] ++ (D d 3 4 ++ ([.slice (some ⟨(L2.b 0), 0, none⟩) 48 48, .slice (some ⟨(L2.b 1), 0, none⟩) 96 96] ++ D d 9 122))) (fun L => [(L2.b 0, BC (su (fun _ => 0) 0 tv) 48), (L2.b 1, BC (su (fun _ => 0) 0 tv) 96)]) hp3 ⟨
    oM, oM, oM, oJ .u8 .u8 ((tp : Nat) : Int) 8 (h := fun w => remY _ _ _ _ htr (by omega) (by decide) w), oJ .u8 .u8 tr 32 (h := fun w => mulY _ _ _ _ htv hv w),
    oM, oJ .u8 .u8 ((tp : Nat) : Int) 8 (h := fun w => remY _ _ _ _ htr (by omega) (by decide) w), oJ .u8 .u8 tr 32 (h := fun w => mulY _ _ _ _ htv hv w), oIS (b := (L2.b 0)) (off := 0) (n := 48) (c := 48) (sz := 1) 0 Tryz.underlying45 sizeY (by decide),
    oT1 oneY, oIS (b := (L2.b 1)) (off := 0) (n := 96) (c := 96) (sz := 1) 0 Tryz.underlying45 sizeY (by decide), oT1 oneY,
    trivial⟩ (fun L3 _ w4 hp4 => ?_)
  refine k5 _ _ ?_
  refine wp_seq_k (fun K6 k6 => ?_)
  refine gsD [.det (.slice (some ⟨(L2.b 0), 0, none⟩) 48 48), .det (.int .u8 ((at_ : Nat) : Int)), .det (.int .i64 ((at_ : Nat) : Int)), .det (.int .i64 ((j : Nat) : Int)), .det (.pointer (some ⟨(L2.b 0), 0 + j * 1, none⟩)), .det (.int .u8 (su (fun _ => 0) 0 tv j)), .det (.int .u8 ((xb : Nat) : Int)), .det (.int .u8 xr), .det (.int .u8 vb), .det (.pointer (some ⟨(L2.b 0), 0 + j * 1, none⟩)), .store (.base 0) (0 + j * 1) ([.int .u8 vb]) (BC (su (su (fun _ => 0) 0 tv) j vb) 48)] [0, 1, 2, 3, 4, 5, 6, 7, 8, 9, 10] [0, 0, 2, 6, 15, 31, 0, 64, 255, 511, 1023] (fun L d => [.int .u8 ((tp : Nat) : Int), .int .u8 ((at_ : Nat) : Int), .int .u8 ((xb : Nat) : Int)] ++ (D d 3 4 ++ ([.slice (some ⟨(L2.b 0), 0, none⟩) 48 48, .slice (some ⟨(L2.b 1), 0, none⟩) 96 96] ++ D d 9 122))) (fun L => [(L2.b 0, BC (su (su (fun _ => 0) 0 tv) j vb) 48), (L2.b 1, BC (su (fun _ => 0) 0 tv) 96)]) hp4 ⟨
    oM, oM, oCv (conv8n at_ hat), oJ .i64 .i64 ((at_ : Nat) : Int) 48 (h := fun w => remN _ at_ 48 j (by decide) (by omega) hj0 w), oIS (n := 48) (c := 48) j Tryz.underlying45 sizeY (show j < 48 by omega),
    oLY 0 (show j < 48 by omega), oM, oJ .u8 .u8 ((xb : Nat) : Int) 32 (h := fun w => remY _ _ _ _ hxr (by omega) (by decide) w), oJ .u8 .u8 (su (fun _ => 0) 0 tv j) xr (h := fun w => orY _ _ _ _ hor w),
    oIS (n := 48) (c := 48) j Tryz.underlying45 sizeY (show j < 48 by omega), oTY (j := j) (show j < 48 by omega),
    trivial⟩ (fun L4 _ w5 hp5 => ?_)
  refine k6 _ _ ?_
  refine wp_seq_k (fun K7 k7 => ?_)
  refine gsD [.det (.slice (some ⟨(L2.b 1), 0, none⟩) 96 96), .det (.int .u8 ((at_ : Nat) : Int)), .det (.int .i64 ((at_ : Nat) : Int)), .det (.int .i64 ((j : Nat) : Int)), .det (.pointer (some ⟨(L2.b 1), 0 + j * 1, none⟩)), .det (.int .u8 (su (fun _ => 0) 0 tv j)), .det (.int .u8 ((xb : Nat) : Int)), .det (.int .u8 xr), .det (.int .u8 vb), .det (.pointer (some ⟨(L2.b 1), 0 + j * 1, none⟩)), .store (.base 1) (0 + j * 1) ([.int .u8 vb]) (BC (su (su (fun _ => 0) 0 tv) j vb) 96)] [0, 1, 2, 3, 4, 5, 6, 7, 8, 9, 10] [0, 0, 2, 6, 15, 31, 0, 64, 255, 511, 1023] (fun L d => [.int .u8 ((tp : Nat) : Int)] ++ (D d 1 6 ++ ([.slice (some ⟨(L2.b 0), 0, none⟩) 48 48, .slice (some ⟨(L2.b 1), 0, none⟩) 96 96] ++ D d 9 122))) (fun L => [(L2.b 0, BC (su (su (fun _ => 0) 0 tv) j vb) 48), (L2.b 1, BC (su (su (fun _ => 0) 0 tv) j vb) 96)]) hp5 ⟨
    oM, oM, oCv (conv8n at_ hat), oJ .i64 .i64 ((at_ : Nat) : Int) 48 (h := fun w => remN _ at_ 48 j (by decide) (by omega) hj0 w), oIS (n := 96) (c := 96) j Tryz.underlying45 sizeY (show j < 96 by omega),
    oLY 1 (show j < 96 by omega), oM, oJ .u8 .u8 ((xb : Nat) : Int) 32 (h := fun w => remY _ _ _ _ hxr (by omega) (by decide) w), oJ .u8 .u8 (su (fun _ => 0) 0 tv j) xr (h := fun w => orY _ _ _ _ hor w),
    oIS (n := 96) (c := 96) j Tryz.underlying45 sizeY (show j < 96 by omega), oTY (j := j) (show j < 96 by omega),
    trivial⟩ (fun L5 _ w6 hp6 => ?_)
  refine k7 _ _ ?_
  refine wp_seq_k (fun K8 k8 => ?_)
  refine gsD [.det (.slice (some ⟨(L2.b 0), 0, none⟩) 48 48), .det (.tuple #[GV ⟨0, 0, false⟩, .int .i64 3]), .det (.tuple #[GV ⟨0, 0, false⟩, .int .i64 3]), .det (GV ⟨0, 0, false⟩), .det (.int .i64 3), .alloc (GC ⟨0, 0, false⟩), .store (.new 5) 0 (GC ⟨0, 0, false⟩) (GC ⟨0, 0, false⟩), .det (.int .i64 3)] [0, 1, 2, 3, 4, 5, 6, 7] [0, 1, 3, 7, 7, 0, 47, 127] (fun L d => [.int .u8 ((tp : Nat) : Int)] ++ (D d 1 7 ++ ([.slice (some ⟨(L2.b 1), 0, none⟩) 96 96, d 9, .int .i64 3] ++ D d 11 120))) (fun L => [(L2.b 0, BC (su (su (fun _ => 0) 0 tv) j vb) 48), (L2.b 1, BC (su (su (fun _ => 0) 0 tv) j vb) 96), (L.b 5, GC ⟨0, 0, false⟩)]) hp6 ⟨
    oM, oCS (fun L => #[.slice (some ⟨(L2.b 0), 0, none⟩) 48 48]) (fun L w hs => by have h := K.take1 _ 48 48 (su (su (fun _ => 0) 0 tv) j vb) w (K.stay hg hs.bel) (Nat.le_refl _) (by decide) (box_at (seen_at hs (k := 0) rfl)) hr1; rw [ht1] at h; exact h),
    oM, oX, oX, oZ rG, oT rG, oA,
    trivial⟩ (fun L6 _ w7 hp7 => ?_)
  refine k8 _ _ ?_
  refine wp_seq_k (fun K9 k9 => ?_)
  refine gsD [.det (.slice (some ⟨(L2.b 1), 0, none⟩) 96 96), .det (.tuple #[T2.GV ⟨0, 0, false⟩, .int .i64 3]), .det (.tuple #[T2.GV ⟨0, 0, false⟩, .int .i64 3]), .det (T2.GV ⟨0, 0, false⟩), .det (.int .i64 3), .alloc (T2.GC ⟨0, 0, false⟩), .store (.new 5) 0 (T2.GC ⟨0, 0, false⟩) (T2.GC ⟨0, 0, false⟩), .det (.int .i64 3)] [0, 1, 2, 3, 4, 5, 6, 7] [0, 1, 3, 7, 7, 0, 47, 127] (fun L d => [.int .u8 ((tp : Nat) : Int)] ++ (D d 1 9 ++ ([.int .i64 3, d 11, .int .i64 3] ++ D d 13 118))) (fun L => [(L2.b 0, BC (su (su (fun _ => 0) 0 tv) j vb) 48), (L2.b 1, BC (su (su (fun _ => 0) 0 tv) j vb) 96), (L6.b 5, GC ⟨0, 0, false⟩), (L.b 5, T2.GC ⟨0, 0, false⟩)]) hp7 ⟨
    oM, oCS (fun L => #[.slice (some ⟨(L2.b 1), 0, none⟩) 96 96]) (fun L w hs => by have h := K.take2 _ 96 96 (su (su (fun _ => 0) 0 tv) j vb) w (K.stay hg hs.bel) (Nat.le_refl _) (by decide) (box_at (seen_at hs (k := 1) rfl)) hr2; rw [ht2] at h; exact h),
    oM, oX, oX, oZ T2.rG, oT T2.rG, oA,
    trivial⟩ (fun L7 _ w8 hp8 => ?_)
  refine k9 _ _ ?_
  refine wp_seq_k (fun K10 k10 => ?_)
  refine wp_seq_k (fun K11 k11 => ?_)
  refine gsD [.det (.int .u8 ((tp : Nat) : Int)), .det (.int .u8 tr), .det (.bool false), .det (.bool false), .det (.int .u8 ((tp : Nat) : Int)), .det (.int .u8 tr), .det (.bool true), .det (.bool true)] [0, 1, 2, 3, 4, 5, 6, 7] [0, 1, 3, 7, 15, 31, 63, 127] (fun L d => D d 0 10 ++ ([.int .i64 3, d 11, .int .i64 3] ++ (D d 13 55 ++ ([.bool true] ++ D d 69 62)))) (fun L => [(L2.b 0, BC (su (su (fun _ => 0) 0 tv) j vb) 48), (L2.b 1, BC (su (su (fun _ => 0) 0 tv) j vb) 96), (L6.b 5, GC ⟨0, 0, false⟩), (L7.b 5, T2.GC ⟨0, 0, false⟩)]) hp8 ⟨
    oM, oJ .u8 .u8 ((tp : Nat) : Int) 8 (h := fun w => remY _ _ _ _ htr (by omega) (by decide) w), oJ .u8 .u8 tr 4 (h := fun w => (lssY _ _ _ w).trans (by rw [decide_eq_false hlss])),
    oM, oM, oJ .u8 .u8 ((tp : Nat) : Int) 8 (h := fun w => remY _ _ _ _ htr (by omega) (by decide) w), oJ .u8 .u8 tr 7 (h := fun w => (eqlI _ _ _ _ w).trans (by rw [decide_eq_true h7])),
    oP,
    trivial⟩ (fun L8 _ w9 hp9 => ?_)
  refine k11 _ _ ?_
  refine wp_cond_true (by kernel_rfl) ?_
  refine wp_seq_k (fun K12 k12 => ?_)
  refine gsD [.det (.int .i64 3), .det (.bool true), .det (.bool true), .det (.int .i64 3), .det (.bool true), .det (.bool true), .det (.bool true)] [0, 1, 2, 3, 4, 5, 6] [0, 1, 3, 7, 15, 31, 63] (fun L d => D d 0 6 ++ ([.bool true] ++ D d 7 124)) (fun L => [(L2.b 0, BC (su (su (fun _ => 0) 0 tv) j vb) 48), (L2.b 1, BC (su (su (fun _ => 0) 0 tv) j vb) 96), (L6.b 5, GC ⟨0, 0, false⟩), (L7.b 5, T2.GC ⟨0, 0, false⟩)]) hp9 ⟨
    oM, oJ .i64 .i64 3 3 (h := fun w => (eqlI _ _ _ _ w).trans rfl), oM, oM, oJ .i64 .i64 3 3 (h := fun w => (eqlI _ _ _ _ w).trans rfl), oP, oA,
    trivial⟩ (fun L9 _ w10 hp10 => ?_)
  refine k12 _ _ ?_
  refine wp_ret ?_
  refine bodyPost_ret (v := .bool true) ?_ rfl ?_
  · exact res_t rfl (by kernel_rfl) _
  · exact ⟨rfl, hp10.bel⟩
set_option maxHeartbeats 4000000 in
theorem headsC {G : World → Prop} (K : PtK G) (R : RefK) (tp at_ xb j : Nat) (tr tv xr vb : Int) (w : World) (hg : G w) (hj0 : at_ % 48 = j) (hj : j < 48) (hat : at_ < 256) (htr : ((tp : Nat) : Int) % 8 = tr) (htv : tr * 32 = tv) (hv : 0 ≤ tv ∧ tv < 256) (hxr : ((xb : Nat) : Int) % 32 = xr) (hor : bits .or .u8 (su (fun _ => 0) 0 tv j) xr = vb) (hr1 : ∀ i, i < 48 → 0 ≤ (su (su (fun _ => 0) 0 tv) j vb) i ∧ (su (su (fun _ => 0) 0 tv) j vb) i < 256) (hr2 : ∀ i, i < 96 → 0 ≤ (su (su (fun _ => 0) 0 tv) j vb) i ∧ (su (su (fun _ => 0) 0 tv) j vb) i < 256) (ht1 : tkA (su (su (fun _ => 0) 0 tv) j vb) 48 = .tuple #[GV ⟨0, 0, false⟩, .int .i64 3]) (ht2 : T2.tkB (su (su (fun _ => 0) 0 tv) j vb) 96 = .tuple #[T2.GV ⟨0, 0, false⟩, .int .i64 3]) (hlss : ¬ tr < 4) (h7 : ¬ tr = 7) (h6 : tr = 6) (hx0 : ¬ xr = 0) : Calls Tryz.prog 8 #[.int .u8 ((tp : Nat) : Int), .int .u8 ((at_ : Nat) : Int), .int .u8 ((xb : Nat) : Int)] w (Ret (.bool true) w) := by
  have hp0 := Heap.start w
  go_enter Tryz.func8, Tryz.ntmps8
  refine wp_seq_k (fun K1 k1 => ?_)
  refine gsD [.det (.bool false)] [0] [0] (fun L d => [.int .u8 ((tp : Nat) : Int), .int .u8 ((at_ : Nat) : Int), .int .u8 ((xb : Nat) : Int)] ++ D d 3 128) (fun L => []) hp0 ⟨
    oA,
    trivial⟩ (fun L0 _ w1 hp1 => ?_)
  refine k1 _ _ ?_
  refine wp_seq_k (fun K2 k2 => ?_)
  refine wp_seq_k (fun K3 k3 => ?_)
  refine gsD [.det (.bool true), .det (.bool false)] [0, 1] [0, 1] (fun L d => [.int .u8 ((tp : Nat) : Int), .int .u8 ((at_ : Nat) : Int), .int .u8 ((xb : Nat) : Int)] ++ (D d 3 15 ++ ([.bool false] ++ D d 19 112))) (fun L => []) hp1 ⟨
    oC K.stay hg (begun10 K R), oN,
    trivial⟩ (fun L1 _ w2 hp2 => ?_)
  refine k3 _ _ ?_
  refine wp_cond_false (by kernel_rfl) ?_
  refine skips ?_
  refine k2 _ _ ?_
  refine wp_seq_k (fun K4 k4 => ?_)
  refine drD [.alloc (BC (fun _ => 0) 48), .alloc (BC (fun _ => 0) 96), .detB 0 (fun b => .slice (some ⟨b, 0, none⟩) 48 48), .detB 1 (fun b => .slice (some ⟨b, 0, none⟩) 96 96)] [0, 1, 2, 3] [0, 0, 1, 7] (fun L d => [.int .u8 ((tp : Nat) : Int), .int .u8 ((at_ : Nat) : Int), .int .u8 ((xb : Nat) : Int)] ++ (D d 3 4 ++ ([.slice (some ⟨L.b 0, 0, none⟩) 48 48, .slice (some ⟨L.b 1, 0, none⟩) 96 96] ++ D d 9 122))) (fun L => [(L.b 0, BC (fun _ => 0) 48), (L.b 1, BC (fun _ => 0) 96)]) hp2 ⟨
    oMa (by decide) (by decide), oMa (by decide) (by decide), oAN, oAN,
    trivial⟩ (fun L2 _ w3 hp3 => ?_)
  refine k4 _ _ ?_
  refine wp_seq_k (fun K5 k5 => ?_)
  refine gsD [.det (.slice (some ⟨(L2.b 0), 0, none⟩) 48 48), .det (.slice (some ⟨(L2.b 1), 0, none⟩) 96 96), .det (.int .u8 ((tp : Nat) : Int)), .det (.int .u8 tr), .det (.int .u8 tv), .det (.int .u8 ((tp : Nat) : Int)), .det (.int .u8 tr), .det (.int .u8 tv), .det (L2.p 0), .store (.base 0) 0 ([.int .u8 tv]) (BC (su (fun _ => 0) 0 tv) 48), .det (L2.p 1), .store (.base 1) 0 ([.int .u8 tv]) (BC (su (fun _ => 0) 0 tv) 96)] [0, 1, 2, 3, 4, 5, 6, 7, 8, 9, 10, 11] [0, 0, 0, 4, 12, 0, 32, 96, 29, 285, 1023, 2047] (fun L d => [.int .u8 ((tp : Nat) : Int), .int .u8 ((at_ : Nat) : Int), .int .u8 ((xb : Nat) : Int)] ++ (D d 3 4 ++ ([.slice (some ⟨(L2.b 0), 0, none⟩) 48 48, .slice (some ⟨(L2.b 1), 0, none⟩) 96 96] ++ D d 9 122))) (fun L => [(L2.b 0, BC (su (fun _ => 0) 0 tv) 48), (L2.b 1, BC (su (fun _ => 0) 0 tv) 96)]) hp3 ⟨
    oM, oM, oM, oJ .u8 .u8 ((tp : Nat) : Int) 8 (h := fun w => remY _ _ _ _ htr (by omega) (by decide) w), oJ .u8 .u8 tr 32 (h := fun w => mulY _ _ _ _ htv hv w),
    oM, oJ .u8 .u8 ((tp : Nat) : Int) 8 (h := fun w => remY _ _ _ _ htr (by omega) (by decide) w), oJ .u8 .u8 tr 32 (h := fun w => mulY _ _ _ _ htv hv w), oIS (b := (L2.b 0)) (off := 0) (n := 48) (c := 48) (sz := 1) 0 Tryz.underlying45 sizeY (by decide),
    oT1 oneY, oIS (b := (L2.b 1)) (off := 0) (n := 96) (c := 96) (sz := 1) 0 Tryz.underlying45 sizeY (by decide), oT1 oneY,
    trivial⟩ (fun L3 _ w4 hp4 => ?_)
  refine k5 _ _ ?_
  refine wp_seq_k (fun K6 k6 => ?_)
  refine gsD [.det (.slice (some ⟨(L2.b 0), 0, none⟩) 48 48), .det (.int .u8 ((at_ : Nat) : Int)), .det (.int .i64 ((at_ : Nat) : Int)), .det (.int .i64 ((j : Nat) : Int)), .det (.pointer (some ⟨(L2.b 0), 0 + j * 1, none⟩)), .det (.int .u8 (su (fun _ => 0) 0 tv j)), .det (.int .u8 ((xb : Nat) : Int)), .det (.int .u8 xr), .det (.int .u8 vb), .det (.pointer (some ⟨(L2.b 0), 0 + j * 1, none⟩)), .store (.base 0) (0 + j * 1) ([.int .u8 vb]) (BC (su (su (fun _ => 0) 0 tv) j vb) 48)] [0, 1, 2, 3, 4, 5, 6, 7, 8, 9, 10] [0, 0, 2, 6, 15, 31, 0, 64, 255, 511, 1023] (fun L d => [.int .u8 ((tp : Nat) : Int), .int .u8 ((at_ : Nat) : Int), .int .u8 ((xb : Nat) : Int)] ++ (D d 3 4 ++ ([.slice (some ⟨(L2.b 0), 0, none⟩) 48 48, .slice (some ⟨(L2.b 1), 0, none⟩) 96 96] ++ D d 9 122))) (fun L => [(L2.b 0, BC (su (su (fun _ => 0) 0 tv) j vb) 48), (L2.b 1, BC (su (fun _ => 0) 0 tv) 96)]) hp4 ⟨
    oM, oM, oCv (conv8n at_ hat), oJ .i64 .i64 ((at_ : Nat) : Int) 48 (h := fun w => remN _ at_ 48 j (by decide) (by omega) hj0 w), oIS (n := 48) (c := 48) j Tryz.underlying45 sizeY (show j < 48 by omega),
    oLY 0 (show j < 48 by omega), oM, oJ .u8 .u8 ((xb : Nat) : Int) 32 (h := fun w => remY _ _ _ _ hxr (by omega) (by decide) w), oJ .u8 .u8 (su (fun _ => 0) 0 tv j) xr (h := fun w => orY _ _ _ _ hor w),
    oIS (n := 48) (c := 48) j Tryz.underlying45 sizeY (show j < 48 by omega), oTY (j := j) (show j < 48 by omega),
    trivial⟩ (fun L4 _ w5 hp5 => ?_)
  refine k6 _ _ ?_
  refine wp_seq_k (fun K7 k7 => ?_)
  refine gsD [.det (.slice (some ⟨(L2.b 1), 0, none⟩) 96 96), .det (.int .u8 ((at_ : Nat) : Int)), .det (.int .i64 ((at_ : Nat) : Int)), .det (.int .i64 ((j : Nat) : Int)), .det (.pointer (some ⟨(L2.b 1), 0 + j * 1, none⟩)), .det (.int .u8 (su (fun _ => 0) 0 tv j)), .det (.int .u8 ((xb : Nat) : Int)), .det (.int .u8 xr), .det (.int .u8 vb), .det (.pointer (some ⟨(L2.b 1), 0 + j * 1, none⟩)), .store (.base 1) (0 + j * 1) ([.int .u8 vb]) (BC (su (su (fun _ => 0) 0 tv) j vb) 96)] [0, 1, 2, 3, 4, 5, 6, 7, 8, 9, 10] [0, 0, 2, 6, 15, 31, 0, 64, 255, 511, 1023] (fun L d => [.int .u8 ((tp : Nat) : Int), d 1, .int .u8 ((xb : Nat) : Int)] ++ (D d 3 4 ++ ([.slice (some ⟨(L2.b 0), 0, none⟩) 48 48, .slice (some ⟨(L2.b 1), 0, none⟩) 96 96] ++ D d 9 122))) (fun L => [(L2.b 0, BC (su (su (fun _ => 0) 0 tv) j vb) 48), (L2.b 1, BC (su (su (fun _ => 0) 0 tv) j vb) 96)]) hp5 ⟨
    oM, oM, oCv (conv8n at_ hat), oJ .i64 .i64 ((at_ : Nat) : Int) 48 (h := fun w => remN _ at_ 48 j (by decide) (by omega) hj0 w), oIS (n := 96) (c := 96) j Tryz.underlying45 sizeY (show j < 96 by omega),
    oLY 1 (show j < 96 by omega), oM, oJ .u8 .u8 ((xb : Nat) : Int) 32 (h := fun w => remY _ _ _ _ hxr (by omega) (by decide) w), oJ .u8 .u8 (su (fun _ => 0) 0 tv j) xr (h := fun w => orY _ _ _ _ hor w),
    oIS (n := 96) (c := 96) j Tryz.underlying45 sizeY (show j < 96 by omega), oTY (j := j) (show j < 96 by omega),
    trivial⟩ (fun L5 _ w6 hp6 => ?_)
  refine k7 _ _ ?_
  refine wp_seq_k (fun K8 k8 => ?_)
  refine gsD [.det (.slice (some ⟨(L2.b 0), 0, none⟩) 48 48), .det (.tuple #[GV ⟨0, 0, false⟩, .int .i64 3]), .det (.tuple #[GV ⟨0, 0, false⟩, .int .i64 3]), .det (GV ⟨0, 0, false⟩), .det (.int .i64 3), .alloc (GC ⟨0, 0, false⟩), .store (.new 5) 0 (GC ⟨0, 0, false⟩) (GC ⟨0, 0, false⟩), .det (.int .i64 3)] [0, 1, 2, 3, 4, 5, 6, 7] [0, 1, 3, 7, 7, 0, 47, 127] (fun L d => [.int .u8 ((tp : Nat) : Int), d 1, .int .u8 ((xb : Nat) : Int)] ++ (D d 3 5 ++ ([.slice (some ⟨(L2.b 1), 0, none⟩) 96 96, d 9, .int .i64 3] ++ D d 11 120))) (fun L => [(L2.b 0, BC (su (su (fun _ => 0) 0 tv) j vb) 48), (L2.b 1, BC (su (su (fun _ => 0) 0 tv) j vb) 96), (L.b 5, GC ⟨0, 0, false⟩)]) hp6 ⟨
    oM, oCS (fun L => #[.slice (some ⟨(L2.b 0), 0, none⟩) 48 48]) (fun L w hs => by have h := K.take1 _ 48 48 (su (su (fun _ => 0) 0 tv) j vb) w (K.stay hg hs.bel) (Nat.le_refl _) (by decide) (box_at (seen_at hs (k := 0) rfl)) hr1; rw [ht1] at h; exact h),
    oM, oX, oX, oZ rG, oT rG, oA,
    trivial⟩ (fun L6 _ w7 hp7 => ?_)
  refine k8 _ _ ?_
  refine wp_seq_k (fun K9 k9 => ?_)
  refine gsD [.det (.slice (some ⟨(L2.b 1), 0, none⟩) 96 96), .det (.tuple #[T2.GV ⟨0, 0, false⟩, .int .i64 3]), .det (.tuple #[T2.GV ⟨0, 0, false⟩, .int .i64 3]), .det (T2.GV ⟨0, 0, false⟩), .det (.int .i64 3), .alloc (T2.GC ⟨0, 0, false⟩), .store (.new 5) 0 (T2.GC ⟨0, 0, false⟩) (T2.GC ⟨0, 0, false⟩), .det (.int .i64 3)] [0, 1, 2, 3, 4, 5, 6, 7] [0, 1, 3, 7, 7, 0, 47, 127] (fun L d => [.int .u8 ((tp : Nat) : Int), d 1, .int .u8 ((xb : Nat) : Int)] ++ (D d 3 7 ++ ([.int .i64 3, d 11, .int .i64 3] ++ D d 13 118))) (fun L => [(L2.b 0, BC (su (su (fun _ => 0) 0 tv) j vb) 48), (L2.b 1, BC (su (su (fun _ => 0) 0 tv) j vb) 96), (L6.b 5, GC ⟨0, 0, false⟩), (L.b 5, T2.GC ⟨0, 0, false⟩)]) hp7 ⟨
    oM, oCS (fun L => #[.slice (some ⟨(L2.b 1), 0, none⟩) 96 96]) (fun L w hs => by have h := K.take2 _ 96 96 (su (su (fun _ => 0) 0 tv) j vb) w (K.stay hg hs.bel) (Nat.le_refl _) (by decide) (box_at (seen_at hs (k := 1) rfl)) hr2; rw [ht2] at h; exact h),
    oM, oX, oX, oZ T2.rG, oT T2.rG, oA,
    trivial⟩ (fun L7 _ w8 hp8 => ?_)
  refine k9 _ _ ?_
  refine wp_seq_k (fun K10 k10 => ?_)
  refine wp_seq_k (fun K11 k11 => ?_)
  refine gsD [.det (.int .u8 ((tp : Nat) : Int)), .det (.int .u8 tr), .det (.bool false), .det (.bool false), .det (.int .u8 ((tp : Nat) : Int)), .det (.int .u8 tr), .det (.bool false), .det (.bool false)] [0, 1, 2, 3, 4, 5, 6, 7] [0, 1, 3, 7, 15, 31, 63, 127] (fun L d => [.int .u8 ((tp : Nat) : Int), d 1, .int .u8 ((xb : Nat) : Int)] ++ (D d 3 7 ++ ([.int .i64 3, d 11, .int .i64 3] ++ (D d 13 55 ++ ([.bool false] ++ D d 69 62))))) (fun L => [(L2.b 0, BC (su (su (fun _ => 0) 0 tv) j vb) 48), (L2.b 1, BC (su (su (fun _ => 0) 0 tv) j vb) 96), (L6.b 5, GC ⟨0, 0, false⟩), (L7.b 5, T2.GC ⟨0, 0, false⟩)]) hp8 ⟨
    oM, oJ .u8 .u8 ((tp : Nat) : Int) 8 (h := fun w => remY _ _ _ _ htr (by omega) (by decide) w), oJ .u8 .u8 tr 4 (h := fun w => (lssY _ _ _ w).trans (by rw [decide_eq_false hlss])),
    oM, oM, oJ .u8 .u8 ((tp : Nat) : Int) 8 (h := fun w => remY _ _ _ _ htr (by omega) (by decide) w), oJ .u8 .u8 tr 7 (h := fun w => (eqlI _ _ _ _ w).trans (by rw [decide_eq_false h7])),
    oP,
    trivial⟩ (fun L8 _ w9 hp9 => ?_)
  refine k11 _ _ ?_
  refine wp_cond_false (by kernel_rfl) ?_
  refine skips ?_
  refine k10 _ _ ?_
  refine wp_seq_k (fun K12 k12 => ?_)
  refine wp_seq_k (fun K13 k13 => ?_)
  refine gsD [.det (.int .u8 ((tp : Nat) : Int)), .det (.int .u8 tr), .det (.bool true)] [0, 1, 2] [0, 1, 3] (fun L d => D d 0 2 ++ ([.int .u8 ((xb : Nat) : Int)] ++ (D d 3 7 ++ ([.int .i64 3, d 11, .int .i64 3] ++ (D d 13 64 ++ ([.bool true] ++ D d 78 53)))))) (fun L => [(L2.b 0, BC (su (su (fun _ => 0) 0 tv) j vb) 48), (L2.b 1, BC (su (su (fun _ => 0) 0 tv) j vb) 96), (L6.b 5, GC ⟨0, 0, false⟩), (L7.b 5, T2.GC ⟨0, 0, false⟩)]) hp9 ⟨
    oM, oJ .u8 .u8 ((tp : Nat) : Int) 8 (h := fun w => remY _ _ _ _ htr (by omega) (by decide) w), oJ .u8 .u8 tr 6 (h := fun w => (eqlI _ _ _ _ w).trans (by rw [decide_eq_true h6])),
    trivial⟩ (fun L9 _ w10 hp10 => ?_)
  refine k13 _ _ ?_
  refine wp_cond_true (by kernel_rfl) ?_
  refine wp_seq_k (fun K14 k14 => ?_)
  refine wp_seq_k (fun K15 k15 => ?_)
  refine gsD [.det (.int .u8 ((xb : Nat) : Int)), .det (.int .u8 xr), .det (.bool true)] [0, 1, 2] [0, 1, 3] (fun L d => D d 0 10 ++ ([.int .i64 3, d 11, .int .i64 3] ++ (D d 13 67 ++ ([.bool true] ++ D d 81 50)))) (fun L => [(L2.b 0, BC (su (su (fun _ => 0) 0 tv) j vb) 48), (L2.b 1, BC (su (su (fun _ => 0) 0 tv) j vb) 96), (L6.b 5, GC ⟨0, 0, false⟩), (L7.b 5, T2.GC ⟨0, 0, false⟩)]) hp10 ⟨
    oM, oJ .u8 .u8 ((xb : Nat) : Int) 32 (h := fun w => remY _ _ _ _ hxr (by omega) (by decide) w), oJ .u8 .u8 xr 0 (h := fun w => (neqI _ _ _ _ w).trans (by rw [decide_eq_false hx0]; rfl)),
    trivial⟩ (fun L10 _ w11 hp11 => ?_)
  refine k15 _ _ ?_
  refine wp_cond_true (by kernel_rfl) ?_
  refine wp_seq_k (fun K16 k16 => ?_)
  refine gsD [.det (.int .i64 3), .det (.bool true), .det (.bool true), .det (.int .i64 3), .det (.bool true), .det (.bool true), .det (.bool true)] [0, 1, 2, 3, 4, 5, 6] [0, 1, 3, 7, 15, 31, 63] (fun L d => D d 0 6 ++ ([.bool true] ++ D d 7 124)) (fun L => [(L2.b 0, BC (su (su (fun _ => 0) 0 tv) j vb) 48), (L2.b 1, BC (su (su (fun _ => 0) 0 tv) j vb) 96), (L6.b 5, GC ⟨0, 0, false⟩), (L7.b 5, T2.GC ⟨0, 0, false⟩)]) hp11 ⟨
    oM, oJ .i64 .i64 3 3 (h := fun w => (eqlI _ _ _ _ w).trans rfl), oM, oM, oJ .i64 .i64 3 3 (h := fun w => (eqlI _ _ _ _ w).trans rfl), oP, oA,
    trivial⟩ (fun L11 _ w12 hp12 => ?_)
  refine k16 _ _ ?_
  refine wp_ret ?_
  refine bodyPost_ret (v := .bool true) ?_ rfl ?_
  · exact res_t rfl (by kernel_rfl) _
  · exact ⟨rfl, hp12.bel⟩
set_option maxHeartbeats 4000000 in
theorem headsD {G : World → Prop} (K : PtK G) (R : RefK) (tp at_ xb j : Nat) (tr tv xr vb : Int) (w : World) (hg : G w) (hj0 : at_ % 48 = j) (hj : j < 48) (hat : at_ < 256) (htr : ((tp : Nat) : Int) % 8 = tr) (htv : tr * 32 = tv) (hv : 0 ≤ tv ∧ tv < 256) (hxr : ((xb : Nat) : Int) % 32 = xr) (hor : bits .or .u8 (su (fun _ => 0) 0 tv j) xr = vb) (hr1 : ∀ i, i < 48 → 0 ≤ (su (su (fun _ => 0) 0 tv) j vb) i ∧ (su (su (fun _ => 0) 0 tv) j vb) i < 256) (hr2 : ∀ i, i < 96 → 0 ≤ (su (su (fun _ => 0) 0 tv) j vb) i ∧ (su (su (fun _ => 0) 0 tv) j vb) i < 256) (ht1 : tkA (su (su (fun _ => 0) 0 tv) j vb) 48 = .tuple #[GV ⟨0, 0, true⟩, .int .i64 0]) (ht2 : T2.tkB (su (su (fun _ => 0) 0 tv) j vb) 96 = .tuple #[T2.GV ⟨0, 0, true⟩, .int .i64 0]) (hlss : ¬ tr < 4) (h7 : ¬ tr = 7) (h6 : tr = 6) (hx0 : xr = 0) : Calls Tryz.prog 8 #[.int .u8 ((tp : Nat) : Int), .int .u8 ((at_ : Nat) : Int), .int .u8 ((xb : Nat) : Int)] w (Ret (.bool true) w) := by
  have hp0 := Heap.start w
  go_enter Tryz.func8, Tryz.ntmps8
  refine wp_seq_k (fun K1 k1 => ?_)
  refine gsD [.det (.bool false)] [0] [0] (fun L d => [.int .u8 ((tp : Nat) : Int), .int .u8 ((at_ : Nat) : Int), .int .u8 ((xb : Nat) : Int)] ++ D d 3 128) (fun L => []) hp0 ⟨
    oA,
    trivial⟩ (fun L0 _ w1 hp1 => ?_)
  refine k1 _ _ ?_
  refine wp_seq_k (fun K2 k2 => ?_)
  refine wp_seq_k (fun K3 k3 => ?_)
  refine gsD [.det (.bool true), .det (.bool false)] [0, 1] [0, 1] (fun L d => [.int .u8 ((tp : Nat) : Int), .int .u8 ((at_ : Nat) : Int), .int .u8 ((xb : Nat) : Int)] ++ (D d 3 15 ++ ([.bool false] ++ D d 19 112))) (fun L => []) hp1 ⟨
    oC K.stay hg (begun10 K R), oN,
    trivial⟩ (fun L1 _ w2 hp2 => ?_)
  refine k3 _ _ ?_
  refine wp_cond_false (by kernel_rfl) ?_
  refine skips ?_
  refine k2 _ _ ?_
  refine wp_seq_k (fun K4 k4 => ?_)
  refine drD [.alloc (BC (fun _ => 0) 48), .alloc (BC (fun _ => 0) 96), .detB 0 (fun b => .slice (some ⟨b, 0, none⟩) 48 48), .detB 1 (fun b => .slice (some ⟨b, 0, none⟩) 96 96)] [0, 1, 2, 3] [0, 0, 1, 7] (fun L d => [.int .u8 ((tp : Nat) : Int), .int .u8 ((at_ : Nat) : Int), .int .u8 ((xb : Nat) : Int)] ++ (D d 3 4 ++ ([.slice (some ⟨L.b 0, 0, none⟩) 48 48, .slice (some ⟨L.b 1, 0, none⟩) 96 96] ++ D d 9 122))) (fun L => [(L.b 0, BC (fun _ => 0) 48), (L.b 1, BC (fun _ => 0) 96)]) hp2 ⟨
    oMa (by decide) (by decide), oMa (by decide) (by decide), oAN, oAN,
    trivial⟩ (fun L2 _ w3 hp3 => ?_)
  refine k4 _ _ ?_
  refine wp_seq_k (fun K5 k5 => ?_)
  refine gsD [.det (.slice (some ⟨(L2.b 0), 0, none⟩) 48 48), .det (.slice (some ⟨(L2.b 1), 0, none⟩) 96 96), .det (.int .u8 ((tp : Nat) : Int)), .det (.int .u8 tr), .det (.int .u8 tv), .det (.int .u8 ((tp : Nat) : Int)), .det (.int .u8 tr), .det (.int .u8 tv), .det (L2.p 0), .store (.base 0) 0 ([.int .u8 tv]) (BC (su (fun _ => 0) 0 tv) 48), .det (L2.p 1), .store (.base 1) 0 ([.int .u8 tv]) (BC (su (fun _ => 0) 0 tv) 96)] [0, 1, 2, 3, 4, 5, 6, 7, 8, 9, 10, 11] [0, 0, 0, 4, 12, 0, 32, 96, 29, 285, 1023, 2047] (fun L d => [.int .u8 ((tp : Nat) : Int), .int .u8 ((at_ : Nat) : Int), .int .u8 ((xb : Nat) : Int)] ++ (D d 3 4 ++ ([.slice (some ⟨(L2.b 0), 0, none⟩) 48 48, .slice (some ⟨(L2.b 1), 0, none⟩) 96 96] ++ D d 9 122))) (fun L => [(L2.b 0, BC (su (fun _ => 0) 0 tv) 48), (L2.b 1, BC (su (fun _ => 0) 0 tv) 96)]) hp3 ⟨
    oM, oM, oM, oJ .u8 .u8 ((tp : Nat) : Int) 8 (h := fun w => remY _ _ _ _ htr (by omega) (by decide) w), oJ .u8 .u8 tr 32 (h := fun w => mulY _ _ _ _ htv hv w),
    oM, oJ .u8 .u8 ((tp : Nat) : Int) 8 (h := fun w => remY _ _ _ _ htr (by omega) (by decide) w), oJ .u8 .u8 tr 32 (h := fun w => mulY _ _ _ _ htv hv w), oIS (b := (L2.b 0)) (off := 0) (n := 48) (c := 48) (sz := 1) 0 Tryz.underlying45 sizeY (by decide),
    oT1 oneY, oIS (b := (L2.b 1)) (off := 0) (n := 96) (c := 96) (sz := 1) 0 Tryz.underlying45 sizeY (by decide), oT1 oneY,
    trivial⟩ (fun L3 _ w4 hp4 => ?_)
  refine k5 _ _ ?_
  refine wp_seq_k (fun K6 k6 => ?_)
  refine gsD [.det (.slice (some ⟨(L2.b 0), 0, none⟩) 48 48), .det (.int .u8 ((at_ : Nat) : Int)), .det (.int .i64 ((at_ : Nat) : Int)), .det (.int .i64 ((j : Nat) : Int)), .det (.pointer (some ⟨(L2.b 0), 0 + j * 1, none⟩)), .det (.int .u8 (su (fun _ => 0) 0 tv j)), .det (.int .u8 ((xb : Nat) : Int)), .det (.int .u8 xr), .det (.int .u8 vb), .det (.pointer (some ⟨(L2.b 0), 0 + j * 1, none⟩)), .store (.base 0) (0 + j * 1) ([.int .u8 vb]) (BC (su (su (fun _ => 0) 0 tv) j vb) 48)] [0, 1, 2, 3, 4, 5, 6, 7, 8, 9, 10] [0, 0, 2, 6, 15, 31, 0, 64, 255, 511, 1023] (fun L d => [.int .u8 ((tp : Nat) : Int), .int .u8 ((at_ : Nat) : Int), .int .u8 ((xb : Nat) : Int)] ++ (D d 3 4 ++ ([.slice (some ⟨(L2.b 0), 0, none⟩) 48 48, .slice (some ⟨(L2.b 1), 0, none⟩) 96 96] ++ D d 9 122))) (fun L => [(L2.b 0, BC (su (su (fun _ => 0) 0 tv) j vb) 48), (L2.b 1, BC (su (fun _ => 0) 0 tv) 96)]) hp4 ⟨
    oM, oM, oCv (conv8n at_ hat), oJ .i64 .i64 ((at_ : Nat) : Int) 48 (h := fun w => remN _ at_ 48 j (by decide) (by omega) hj0 w), oIS (n := 48) (c := 48) j Tryz.underlying45 sizeY (show j < 48 by omega),
    oLY 0 (show j < 48 by omega), oM, oJ .u8 .u8 ((xb : Nat) : Int) 32 (h := fun w => remY _ _ _ _ hxr (by omega) (by decide) w), oJ .u8 .u8 (su (fun _ => 0) 0 tv j) xr (h := fun w => orY _ _ _ _ hor w),
    oIS (n := 48) (c := 48) j Tryz.underlying45 sizeY (show j < 48 by omega), oTY (j := j) (show j < 48 by omega),
    trivial⟩ (fun L4 _ w5 hp5 => ?_)
  refine k6 _ _ ?_
  refine wp_seq_k (fun K7 k7 => ?_)
  refine gsD [.det (.slice (some ⟨(L2.b 1), 0, none⟩) 96 96), .det (.int .u8 ((at_ : Nat) : Int)), .det (.int .i64 ((at_ : Nat) : Int)), .det (.int .i64 ((j : Nat) : Int)), .det (.pointer (some ⟨(L2.b 1), 0 + j * 1, none⟩)), .det (.int .u8 (su (fun _ => 0) 0 tv j)), .det (.int .u8 ((xb : Nat) : Int)), .det (.int .u8 xr), .det (.int .u8 vb), .det (.pointer (some ⟨(L2.b 1), 0 + j * 1, none⟩)), .store (.base 1) (0 + j * 1) ([.int .u8 vb]) (BC (su (su (fun _ => 0) 0 tv) j vb) 96)] [0, 1, 2, 3, 4, 5, 6, 7, 8, 9, 10] [0, 0, 2, 6, 15, 31, 0, 64, 255, 511, 1023] (fun L d => [.int .u8 ((tp : Nat) : Int), d 1, .int .u8 ((xb : Nat) : Int)] ++ (D d 3 4 ++ ([.slice (some ⟨(L2.b 0), 0, none⟩) 48 48, .slice (some ⟨(L2.b 1), 0, none⟩) 96 96] ++ D d 9 122))) (fun L => [(L2.b 0, BC (su (su (fun _ => 0) 0 tv) j vb) 48), (L2.b 1, BC (su (su (fun _ => 0) 0 tv) j vb) 96)]) hp5 ⟨
    oM, oM, oCv (conv8n at_ hat), oJ .i64 .i64 ((at_ : Nat) : Int) 48 (h := fun w => remN _ at_ 48 j (by decide) (by omega) hj0 w), oIS (n := 96) (c := 96) j Tryz.underlying45 sizeY (show j < 96 by omega),
    oLY 1 (show j < 96 by omega), oM, oJ .u8 .u8 ((xb : Nat) : Int) 32 (h := fun w => remY _ _ _ _ hxr (by omega) (by decide) w), oJ .u8 .u8 (su (fun _ => 0) 0 tv j) xr (h := fun w => orY _ _ _ _ hor w),
    oIS (n := 96) (c := 96) j Tryz.underlying45 sizeY (show j < 96 by omega), oTY (j := j) (show j < 96 by omega),
    trivial⟩ (fun L5 _ w6 hp6 => ?_)
  refine k7 _ _ ?_
  refine wp_seq_k (fun K8 k8 => ?_)
  refine gsD [.det (.slice (some ⟨(L2.b 0), 0, none⟩) 48 48), .det (.tuple #[GV ⟨0, 0, true⟩, .int .i64 0]), .det (.tuple #[GV ⟨0, 0, true⟩, .int .i64 0]), .det (GV ⟨0, 0, true⟩), .det (.int .i64 0), .alloc (GC ⟨0, 0, false⟩), .store (.new 5) 0 (GC ⟨0, 0, true⟩) (GC ⟨0, 0, true⟩), .det (.int .i64 0)] [0, 1, 2, 3, 4, 5, 6, 7] [0, 1, 3, 7, 7, 0, 47, 127] (fun L d => [.int .u8 ((tp : Nat) : Int), d 1, .int .u8 ((xb : Nat) : Int)] ++ (D d 3 5 ++ ([.slice (some ⟨(L2.b 1), 0, none⟩) 96 96, L.p 5, .int .i64 0] ++ D d 11 120))) (fun L => [(L2.b 0, BC (su (su (fun _ => 0) 0 tv) j vb) 48), (L2.b 1, BC (su (su (fun _ => 0) 0 tv) j vb) 96), (L.b 5, GC ⟨0, 0, true⟩)]) hp6 ⟨
    oM, oCS (fun L => #[.slice (some ⟨(L2.b 0), 0, none⟩) 48 48]) (fun L w hs => by have h := K.take1 _ 48 48 (su (su (fun _ => 0) 0 tv) j vb) w (K.stay hg hs.bel) (Nat.le_refl _) (by decide) (box_at (seen_at hs (k := 0) rfl)) hr1; rw [ht1] at h; exact h),
    oM, oX, oX, oZ rG, oT rG, oA,
    trivial⟩ (fun L6 _ w7 hp7 => ?_)
  refine k8 _ _ ?_
  refine wp_seq_k (fun K9 k9 => ?_)
  refine gsD [.det (.slice (some ⟨(L2.b 1), 0, none⟩) 96 96), .det (.tuple #[T2.GV ⟨0, 0, true⟩, .int .i64 0]), .det (.tuple #[T2.GV ⟨0, 0, true⟩, .int .i64 0]), .det (T2.GV ⟨0, 0, true⟩), .det (.int .i64 0), .alloc (T2.GC ⟨0, 0, false⟩), .store (.new 5) 0 (T2.GC ⟨0, 0, true⟩) (T2.GC ⟨0, 0, true⟩), .det (.int .i64 0)] [0, 1, 2, 3, 4, 5, 6, 7] [0, 1, 3, 7, 7, 0, 47, 127] (fun L d => [.int .u8 ((tp : Nat) : Int), d 1, .int .u8 ((xb : Nat) : Int)] ++ (D d 3 6 ++ ([L6.p 5, .int .i64 0, L.p 5, .int .i64 0] ++ D d 13 118))) (fun L => [(L2.b 0, BC (su (su (fun _ => 0) 0 tv) j vb) 48), (L2.b 1, BC (su (su (fun _ => 0) 0 tv) j vb) 96), (L6.b 5, GC ⟨0, 0, true⟩), (L.b 5, T2.GC ⟨0, 0, true⟩)]) hp7 ⟨
    oM, oCS (fun L => #[.slice (some ⟨(L2.b 1), 0, none⟩) 96 96]) (fun L w hs => by have h := K.take2 _ 96 96 (su (su (fun _ => 0) 0 tv) j vb) w (K.stay hg hs.bel) (Nat.le_refl _) (by decide) (box_at (seen_at hs (k := 1) rfl)) hr2; rw [ht2] at h; exact h),
    oM, oX, oX, oZ T2.rG, oT T2.rG, oA,
    trivial⟩ (fun L7 _ w8 hp8 => ?_)
  refine k9 _ _ ?_
  refine wp_seq_k (fun K10 k10 => ?_)
  refine wp_seq_k (fun K11 k11 => ?_)
  refine gsD [.det (.int .u8 ((tp : Nat) : Int)), .det (.int .u8 tr), .det (.bool false), .det (.bool false), .det (.int .u8 ((tp : Nat) : Int)), .det (.int .u8 tr), .det (.bool false), .det (.bool false)] [0, 1, 2, 3, 4, 5, 6, 7] [0, 1, 3, 7, 15, 31, 63, 127] (fun L d => [.int .u8 ((tp : Nat) : Int), d 1, .int .u8 ((xb : Nat) : Int)] ++ (D d 3 6 ++ ([L6.p 5, .int .i64 0, L7.p 5, .int .i64 0] ++ (D d 13 55 ++ ([.bool false] ++ D d 69 62))))) (fun L => [(L2.b 0, BC (su (su (fun _ => 0) 0 tv) j vb) 48), (L2.b 1, BC (su (su (fun _ => 0) 0 tv) j vb) 96), (L6.b 5, GC ⟨0, 0, true⟩), (L7.b 5, T2.GC ⟨0, 0, true⟩)]) hp8 ⟨
    oM, oJ .u8 .u8 ((tp : Nat) : Int) 8 (h := fun w => remY _ _ _ _ htr (by omega) (by decide) w), oJ .u8 .u8 tr 4 (h := fun w => (lssY _ _ _ w).trans (by rw [decide_eq_false hlss])),
    oM, oM, oJ .u8 .u8 ((tp : Nat) : Int) 8 (h := fun w => remY _ _ _ _ htr (by omega) (by decide) w), oJ .u8 .u8 tr 7 (h := fun w => (eqlI _ _ _ _ w).trans (by rw [decide_eq_false h7])),
    oP,
    trivial⟩ (fun L8 _ w9 hp9 => ?_)
  refine k11 _ _ ?_
  refine wp_cond_false (by kernel_rfl) ?_
  refine skips ?_
  refine k10 _ _ ?_
  refine wp_seq_k (fun K12 k12 => ?_)
  refine wp_seq_k (fun K13 k13 => ?_)
  refine gsD [.det (.int .u8 ((tp : Nat) : Int)), .det (.int .u8 tr), .det (.bool true)] [0, 1, 2] [0, 1, 3] (fun L d => D d 0 2 ++ ([.int .u8 ((xb : Nat) : Int)] ++ (D d 3 6 ++ ([L6.p 5, .int .i64 0, L7.p 5, .int .i64 0] ++ (D d 13 64 ++ ([.bool true] ++ D d 78 53)))))) (fun L => [(L2.b 0, BC (su (su (fun _ => 0) 0 tv) j vb) 48), (L2.b 1, BC (su (su (fun _ => 0) 0 tv) j vb) 96), (L6.b 5, GC ⟨0, 0, true⟩), (L7.b 5, T2.GC ⟨0, 0, true⟩)]) hp9 ⟨
    oM, oJ .u8 .u8 ((tp : Nat) : Int) 8 (h := fun w => remY _ _ _ _ htr (by omega) (by decide) w), oJ .u8 .u8 tr 6 (h := fun w => (eqlI _ _ _ _ w).trans (by rw [decide_eq_true h6])),
    trivial⟩ (fun L9 _ w10 hp10 => ?_)
  refine k13 _ _ ?_
  refine wp_cond_true (by kernel_rfl) ?_
  refine wp_seq_k (fun K14 k14 => ?_)
  refine wp_seq_k (fun K15 k15 => ?_)
  refine gsD [.det (.int .u8 ((xb : Nat) : Int)), .det (.int .u8 xr), .det (.bool false)] [0, 1, 2] [0, 1, 3] (fun L d => D d 0 9 ++ ([L6.p 5, .int .i64 0, L7.p 5, .int .i64 0] ++ (D d 13 67 ++ ([.bool false] ++ D d 81 50)))) (fun L => [(L2.b 0, BC (su (su (fun _ => 0) 0 tv) j vb) 48), (L2.b 1, BC (su (su (fun _ => 0) 0 tv) j vb) 96), (L6.b 5, GC ⟨0, 0, true⟩), (L7.b 5, T2.GC ⟨0, 0, true⟩)]) hp10 ⟨
    oM, oJ .u8 .u8 ((xb : Nat) : Int) 32 (h := fun w => remY _ _ _ _ hxr (by omega) (by decide) w), oJ .u8 .u8 xr 0 (h := fun w => (neqI _ _ _ _ w).trans (by rw [decide_eq_true hx0]; rfl)),
    trivial⟩ (fun L10 _ w11 hp11 => ?_)
  refine k15 _ _ ?_
  refine wp_cond_false (by kernel_rfl) ?_
  refine skips ?_
  refine k14 _ _ ?_
  refine wp_seq_k (fun K16 k16 => ?_)
  refine gsD [.det (.int .i64 0), .det (.bool true), .det (.bool true), .det (GV ⟨0, 0, true⟩), .det (GV ⟨0, 0, true⟩), .det (.bool true), .det (.bool true), .det (.bool true), .det (.int .i64 0), .det (.bool true), .det (.bool true), .det (.bool true), .det (T2.GV ⟨0, 0, true⟩), .det (T2.GV ⟨0, 0, true⟩), .det (.bool true), .det (.bool true), .det (.bool true)] [0, 1, 2, 3, 4, 5, 6, 7, 8, 9, 10, 11, 12, 13, 14, 15, 16] [0, 1, 3, 7, 7, 31, 63, 127, 255, 511, 1023, 2047, 4095, 4095, 16383, 32767, 65535] (fun L d => D d 0 6 ++ ([.bool true] ++ D d 7 124)) (fun L => [(L2.b 0, BC (su (su (fun _ => 0) 0 tv) j vb) 48), (L2.b 1, BC (su (su (fun _ => 0) 0 tv) j vb) 96), (L6.b 5, GC ⟨0, 0, true⟩), (L7.b 5, T2.GC ⟨0, 0, true⟩)]) hp11 ⟨
    oM, oJ .i64 .i64 0 0 (h := fun w => (eqlI _ _ _ _ w).trans rfl), oM, oL 2 0 rG, oD (buildGi true), oE (a := ⟨0, 0, true⟩) (b := ⟨0, 0, true⟩) qG (yes rfl), oP,
    oM, oM, oJ .i64 .i64 0 0 (h := fun w => (eqlI _ _ _ _ w).trans rfl), oP, oM, oL 3 0 T2.rG, oD (T2.buildGi true), oE (a := ⟨0, 0, true⟩) (b := ⟨0, 0, true⟩) T2.qG (yes rfl),
    oP, oA,
    trivial⟩ (fun L11 _ w12 hp12 => ?_)
  refine k16 _ _ ?_
  refine wp_ret ?_
  refine bodyPost_ret (v := .bool true) ?_ rfl ?_
  · exact res_t rfl (by kernel_rfl) _
  · exact ⟨rfl, hp12.bel⟩
set_option maxHeartbeats 4000000 in
theorem headsE {G : World → Prop} (K : PtK G) (R : RefK) (tp at_ xb j : Nat) (tr tv xr vb : Int) (P1 : G1p) (P2 : T2.G2p) (e1 e2 : Int) (w : World) (hg : G w) (hj0 : at_ % 48 = j) (hj : j < 48) (hat : at_ < 256) (htr : ((tp : Nat) : Int) % 8 = tr) (htv : tr * 32 = tv) (hv : 0 ≤ tv ∧ tv < 256) (hxr : ((xb : Nat) : Int) % 32 = xr) (hor : bits .or .u8 (su (fun _ => 0) 0 tv j) xr = vb) (hr1 : ∀ i, i < 48 → 0 ≤ (su (su (fun _ => 0) 0 tv) j vb) i ∧ (su (su (fun _ => 0) 0 tv) j vb) i < 256) (hr2 : ∀ i, i < 96 → 0 ≤ (su (su (fun _ => 0) 0 tv) j vb) i ∧ (su (su (fun _ => 0) 0 tv) j vb) i < 256) (ht1 : tkA (su (su (fun _ => 0) 0 tv) j vb) 48 = .tuple #[GV P1, .int .i64 e1]) (ht2 : T2.tkB (su (su (fun _ => 0) 0 tv) j vb) 96 = .tuple #[T2.GV P2, .int .i64 e2]) (hlss : ¬ tr < 4) (h7 : ¬ tr = 7) (h6 : ¬ tr = 6) : Calls Tryz.prog 8 #[.int .u8 ((tp : Nat) : Int), .int .u8 ((at_ : Nat) : Int), .int .u8 ((xb : Nat) : Int)] w (Ret (.bool true) w) := by
  have hp0 := Heap.start w
  go_enter Tryz.func8, Tryz.ntmps8
  refine wp_seq_k (fun K1 k1 => ?_)
  refine gsD [.det (.bool false)] [0] [0] (fun L d => [.int .u8 ((tp : Nat) : Int), .int .u8 ((at_ : Nat) : Int), .int .u8 ((xb : Nat) : Int)] ++ D d 3 128) (fun L => []) hp0 ⟨
    oA,
    trivial⟩ (fun L0 _ w1 hp1 => ?_)
  refine k1 _ _ ?_
  refine wp_seq_k (fun K2 k2 => ?_)
  refine wp_seq_k (fun K3 k3 => ?_)
  refine gsD [.det (.bool true), .det (.bool false)] [0, 1] [0, 1] (fun L d => [.int .u8 ((tp : Nat) : Int), .int .u8 ((at_ : Nat) : Int), .int .u8 ((xb : Nat) : Int)] ++ (D d 3 15 ++ ([.bool false] ++ D d 19 112))) (fun L => []) hp1 ⟨
    oC K.stay hg (begun10 K R), oN,
    trivial⟩ (fun L1 _ w2 hp2 => ?_)
  refine k3 _ _ ?_
  refine wp_cond_false (by kernel_rfl) ?_
  refine skips ?_
  refine k2 _ _ ?_
  refine wp_seq_k (fun K4 k4 => ?_)
  refine drD [.alloc (BC (fun _ => 0) 48), .alloc (BC (fun _ => 0) 96), .detB 0 (fun b => .slice (some ⟨b, 0, none⟩) 48 48), .detB 1 (fun b => .slice (some ⟨b, 0, none⟩) 96 96)] [0, 1, 2, 3] [0, 0, 1, 7] (fun L d => [.int .u8 ((tp : Nat) : Int), .int .u8 ((at_ : Nat) : Int), .int .u8 ((xb : Nat) : Int)] ++ (D d 3 4 ++ ([.slice (some ⟨L.b 0, 0, none⟩) 48 48, .slice (some ⟨L.b 1, 0, none⟩) 96 96] ++ D d 9 122))) (fun L => [(L.b 0, BC (fun _ => 0) 48), (L.b 1, BC (fun _ => 0) 96)]) hp2 ⟨
    oMa (by decide) (by decide), oMa (by decide) (by decide), oAN, oAN,
    trivial⟩ (fun L2 _ w3 hp3 => ?_)
  refine k4 _ _ ?_
  refine wp_seq_k (fun K5 k5 => ?_)
  refine gsD [.det (.slice (some ⟨(L2.b 0), 0, none⟩) 48 48), .det (.slice (some ⟨(L2.b 1), 0, none⟩) 96 96), .det (.int .u8 ((tp : Nat) : Int)), .det (.int .u8 tr), .det (.int .u8 tv), .det (.int .u8 ((tp : Nat) : Int)), .det (.int .u8 tr), .det (.int .u8 tv), .det (L2.p 0), .store (.base 0) 0 ([.int .u8 tv]) (BC (su (fun _ => 0) 0 tv) 48), .det (L2.p 1), .store (.base 1) 0 ([.int .u8 tv]) (BC (su (fun _ => 0) 0 tv) 96)] [0, 1, 2, 3, 4, 5, 6, 7, 8, 9, 10, 11] [0, 0, 0, 4, 12, 0, 32, 96, 29, 285, 1023, 2047] (fun L d => [.int .u8 ((tp : Nat) : Int), .int .u8 ((at_ : Nat) : Int), .int .u8 ((xb : Nat) : Int)] ++ (D d 3 4 ++ ([.slice (some ⟨(L2.b 0), 0, none⟩) 48 48, .slice (some ⟨(L2.b 1), 0, none⟩) 96 96] ++ D d 9 122))) (fun L => [(L2.b 0, BC (su (fun _ => 0) 0 tv) 48), (L2.b 1, BC (su (fun _ => 0) 0 tv) 96)]) hp3 ⟨
    oM, oM, oM, oJ .u8 .u8 ((tp : Nat) : Int) 8 (h := fun w => remY _ _ _ _ htr (by omega) (by decide) w), oJ .u8 .u8 tr 32 (h := fun w => mulY _ _ _ _ htv hv w),
    oM, oJ .u8 .u8 ((tp : Nat) : Int) 8 (h := fun w => remY _ _ _ _ htr (by omega) (by decide) w), oJ .u8 .u8 tr 32 (h := fun w => mulY _ _ _ _ htv hv w), oIS (b := (L2.b 0)) (off := 0) (n := 48) (c := 48) (sz := 1) 0 Tryz.underlying45 sizeY (by decide),
    oT1 oneY, oIS (b := (L2.b 1)) (off := 0) (n := 96) (c := 96) (sz := 1) 0 Tryz.underlying45 sizeY (by decide), oT1 oneY,
    trivial⟩ (fun L3 _ w4 hp4 => ?_)
  refine k5 _ _ ?_
  refine wp_seq_k (fun K6 k6 => ?_)
  refine gsD [.det (.slice (some ⟨(L2.b 0), 0, none⟩) 48 48), .det (.int .u8 ((at_ : Nat) : Int)), .det (.int .i64 ((at_ : Nat) : Int)), .det (.int .i64 ((j : Nat) : Int)), .det (.pointer (some ⟨(L2.b 0), 0 + j * 1, none⟩)), .det (.int .u8 (su (fun _ => 0) 0 tv j)), .det (.int .u8 ((xb : Nat) : Int)), .det (.int .u8 xr), .det (.int .u8 vb), .det (.pointer (some ⟨(L2.b 0), 0 + j * 1, none⟩)), .store (.base 0) (0 + j * 1) ([.int .u8 vb]) (BC (su (su (fun _ => 0) 0 tv) j vb) 48)] [0, 1, 2, 3, 4, 5, 6, 7, 8, 9, 10] [0, 0, 2, 6, 15, 31, 0, 64, 255, 511, 1023] (fun L d => [.int .u8 ((tp : Nat) : Int), .int .u8 ((at_ : Nat) : Int), .int .u8 ((xb : Nat) : Int)] ++ (D d 3 4 ++ ([.slice (some ⟨(L2.b 0), 0, none⟩) 48 48, .slice (some ⟨(L2.b 1), 0, none⟩) 96 96] ++ D d 9 122))) (fun L => [(L2.b 0, BC (su (su (fun _ => 0) 0 tv) j vb) 48), (L2.b 1, BC (su (fun _ => 0) 0 tv) 96)]) hp4 ⟨
    oM, oM, oCv (conv8n at_ hat), oJ .i64 .i64 ((at_ : Nat) : Int) 48 (h := fun w => remN _ at_ 48 j (by decide) (by omega) hj0 w), oIS (n := 48) (c := 48) j Tryz.underlying45 sizeY (show j < 48 by omega),
    oLY 0 (show j < 48 by omega), oM, oJ .u8 .u8 ((xb : Nat) : Int) 32 (h := fun w => remY _ _ _ _ hxr (by omega) (by decide) w), oJ .u8 .u8 (su (fun _ => 0) 0 tv j) xr (h := fun w => orY _ _ _ _ hor w),
    oIS (n := 48) (c := 48) j Tryz.underlying45 sizeY (show j < 48 by omega), oTY (j := j) (show j < 48 by omega),
    trivial⟩ (fun L4 _ w5 hp5 => ?_)
  refine k6 _ _ ?_
  refine wp_seq_k (fun K7 k7 => ?_)
  refine gsD [.det (.slice (some ⟨(L2.b 1), 0, none⟩) 96 96), .det (.int .u8 ((at_ : Nat) : Int)), .det (.int .i64 ((at_ : Nat) : Int)), .det (.int .i64 ((j : Nat) : Int)), .det (.pointer (some ⟨(L2.b 1), 0 + j * 1, none⟩)), .det (.int .u8 (su (fun _ => 0) 0 tv j)), .det (.int .u8 ((xb : Nat) : Int)), .det (.int .u8 xr), .det (.int .u8 vb), .det (.pointer (some ⟨(L2.b 1), 0 + j * 1, none⟩)), .store (.base 1) (0 + j * 1) ([.int .u8 vb]) (BC (su (su (fun _ => 0) 0 tv) j vb) 96)] [0, 1, 2, 3, 4, 5, 6, 7, 8, 9, 10] [0, 0, 2, 6, 15, 31, 0, 64, 255, 511, 1023] (fun L d => [.int .u8 ((tp : Nat) : Int)] ++ (D d 1 6 ++ ([.slice (some ⟨(L2.b 0), 0, none⟩) 48 48, .slice (some ⟨(L2.b 1), 0, none⟩) 96 96] ++ D d 9 122))) (fun L => [(L2.b 0, BC (su (su (fun _ => 0) 0 tv) j vb) 48), (L2.b 1, BC (su (su (fun _ => 0) 0 tv) j vb) 96)]) hp5 ⟨
    oM, oM, oCv (conv8n at_ hat), oJ .i64 .i64 ((at_ : Nat) : Int) 48 (h := fun w => remN _ at_ 48 j (by decide) (by omega) hj0 w), oIS (n := 96) (c := 96) j Tryz.underlying45 sizeY (show j < 96 by omega),
    oLY 1 (show j < 96 by omega), oM, oJ .u8 .u8 ((xb : Nat) : Int) 32 (h := fun w => remY _ _ _ _ hxr (by omega) (by decide) w), oJ .u8 .u8 (su (fun _ => 0) 0 tv j) xr (h := fun w => orY _ _ _ _ hor w),
    oIS (n := 96) (c := 96) j Tryz.underlying45 sizeY (show j < 96 by omega), oTY (j := j) (show j < 96 by omega),
    trivial⟩ (fun L5 _ w6 hp6 => ?_)
  refine k7 _ _ ?_
  refine wp_seq_k (fun K8 k8 => ?_)
  refine gsD [.det (.slice (some ⟨(L2.b 0), 0, none⟩) 48 48), .det (.tuple #[GV P1, .int .i64 e1]), .det (.tuple #[GV P1, .int .i64 e1]), .det (GV P1), .det (.int .i64 e1), .alloc (GC ⟨0, 0, false⟩), .store (.new 5) 0 (GC P1) (GC P1), .det (.int .i64 e1)] [0, 1, 2, 3, 4, 5, 6, 7] [0, 1, 3, 7, 7, 0, 47, 127] (fun L d => [.int .u8 ((tp : Nat) : Int)] ++ (D d 1 6 ++ ([.slice (some ⟨(L2.b 0), 0, none⟩) 48 48, .slice (some ⟨(L2.b 1), 0, none⟩) 96 96, L.p 5, .int .i64 e1] ++ D d 11 120))) (fun L => [(L2.b 0, BC (su (su (fun _ => 0) 0 tv) j vb) 48), (L2.b 1, BC (su (su (fun _ => 0) 0 tv) j vb) 96), (L.b 5, GC P1)]) hp6 ⟨
    oM, oCS (fun L => #[.slice (some ⟨(L2.b 0), 0, none⟩) 48 48]) (fun L w hs => by have h := K.take1 _ 48 48 (su (su (fun _ => 0) 0 tv) j vb) w (K.stay hg hs.bel) (Nat.le_refl _) (by decide) (box_at (seen_at hs (k := 0) rfl)) hr1; rw [ht1] at h; exact h),
    oM, oX, oX, oZ rG, oT rG, oA,
    trivial⟩ (fun L6 _ w7 hp7 => ?_)
  refine k8 _ _ ?_
  refine wp_seq_k (fun K9 k9 => ?_)
  refine gsD [.det (.slice (some ⟨(L2.b 1), 0, none⟩) 96 96), .det (.tuple #[T2.GV P2, .int .i64 e2]), .det (.tuple #[T2.GV P2, .int .i64 e2]), .det (T2.GV P2), .det (.int .i64 e2), .alloc (T2.GC ⟨0, 0, false⟩), .store (.new 5) 0 (T2.GC P2) (T2.GC P2), .det (.int .i64 e2)] [0, 1, 2, 3, 4, 5, 6, 7] [0, 1, 3, 7, 7, 0, 47, 127] (fun L d => [.int .u8 ((tp : Nat) : Int)] ++ (D d 1 6 ++ ([.slice (some ⟨(L2.b 0), 0, none⟩) 48 48, .slice (some ⟨(L2.b 1), 0, none⟩) 96 96, L6.p 5, .int .i64 e1, L.p 5, .int .i64 e2] ++ D d 13 118))) (fun L => [(L2.b 0, BC (su (su (fun _ => 0) 0 tv) j vb) 48), (L2.b 1, BC (su (su (fun _ => 0) 0 tv) j vb) 96), (L6.b 5, GC P1), (L.b 5, T2.GC P2)]) hp7 ⟨
    oM, oCS (fun L => #[.slice (some ⟨(L2.b 1), 0, none⟩) 96 96]) (fun L w hs => by have h := K.take2 _ 96 96 (su (su (fun _ => 0) 0 tv) j vb) w (K.stay hg hs.bel) (Nat.le_refl _) (by decide) (box_at (seen_at hs (k := 1) rfl)) hr2; rw [ht2] at h; exact h),
    oM, oX, oX, oZ T2.rG, oT T2.rG, oA,
    trivial⟩ (fun L7 _ w8 hp8 => ?_)
  refine k9 _ _ ?_
  refine wp_seq_k (fun K10 k10 => ?_)
  refine wp_seq_k (fun K11 k11 => ?_)
  refine gsD [.det (.int .u8 ((tp : Nat) : Int)), .det (.int .u8 tr), .det (.bool false), .det (.bool false), .det (.int .u8 ((tp : Nat) : Int)), .det (.int .u8 tr), .det (.bool false), .det (.bool false)] [0, 1, 2, 3, 4, 5, 6, 7] [0, 1, 3, 7, 15, 31, 63, 127] (fun L d => [.int .u8 ((tp : Nat) : Int)] ++ (D d 1 6 ++ ([.slice (some ⟨(L2.b 0), 0, none⟩) 48 48, .slice (some ⟨(L2.b 1), 0, none⟩) 96 96, L6.p 5, .int .i64 e1, L7.p 5, .int .i64 e2] ++ (D d 13 55 ++ ([.bool false] ++ D d 69 62))))) (fun L => [(L2.b 0, BC (su (su (fun _ => 0) 0 tv) j vb) 48), (L2.b 1, BC (su (su (fun _ => 0) 0 tv) j vb) 96), (L6.b 5, GC P1), (L7.b 5, T2.GC P2)]) hp8 ⟨
    oM, oJ .u8 .u8 ((tp : Nat) : Int) 8 (h := fun w => remY _ _ _ _ htr (by omega) (by decide) w), oJ .u8 .u8 tr 4 (h := fun w => (lssY _ _ _ w).trans (by rw [decide_eq_false hlss])),
    oM, oM, oJ .u8 .u8 ((tp : Nat) : Int) 8 (h := fun w => remY _ _ _ _ htr (by omega) (by decide) w), oJ .u8 .u8 tr 7 (h := fun w => (eqlI _ _ _ _ w).trans (by rw [decide_eq_false h7])),
    oP,
    trivial⟩ (fun L8 _ w9 hp9 => ?_)
  refine k11 _ _ ?_
  refine wp_cond_false (by kernel_rfl) ?_
  refine skips ?_
  refine k10 _ _ ?_
  refine wp_seq_k (fun K12 k12 => ?_)
  refine wp_seq_k (fun K13 k13 => ?_)
  refine gsD [.det (.int .u8 ((tp : Nat) : Int)), .det (.int .u8 tr), .det (.bool false)] [0, 1, 2] [0, 1, 3] (fun L d => D d 0 7 ++ ([.slice (some ⟨(L2.b 0), 0, none⟩) 48 48, .slice (some ⟨(L2.b 1), 0, none⟩) 96 96, L6.p 5, .int .i64 e1, L7.p 5, .int .i64 e2] ++ (D d 13 64 ++ ([.bool false] ++ D d 78 53)))) (fun L => [(L2.b 0, BC (su (su (fun _ => 0) 0 tv) j vb) 48), (L2.b 1, BC (su (su (fun _ => 0) 0 tv) j vb) 96), (L6.b 5, GC P1), (L7.b 5, T2.GC P2)]) hp9 ⟨
    oM, oJ .u8 .u8 ((tp : Nat) : Int) 8 (h := fun w => remY _ _ _ _ htr (by omega) (by decide) w), oJ .u8 .u8 tr 6 (h := fun w => (eqlI _ _ _ _ w).trans (by rw [decide_eq_false h6])),
    trivial⟩ (fun L9 _ w10 hp10 => ?_)
  refine k13 _ _ ?_
  refine wp_cond_false (by kernel_rfl) ?_
  refine skips ?_
  refine k12 _ _ ?_
  refine wp_seq_k (fun K14 k14 => ?_)
  refine gsD [.det (.slice (some ⟨(L2.b 0), 0, none⟩) 48 48), .det (.tuple #[GV P1, .int .i64 e1]), .det (.tuple #[GV P1, .int .i64 e1]), .det (GV P1), .det (.int .i64 e1), .alloc (GC ⟨0, 0, false⟩), .store (.new 5) 0 (GC P1) (GC P1), .det (.int .i64 e1)] [0, 1, 2, 3, 4, 5, 6, 7] [0, 1, 3, 7, 7, 0, 47, 127] (fun L d => D d 0 8 ++ ([.slice (some ⟨(L2.b 1), 0, none⟩) 96 96, L6.p 5, .int .i64 e1, L7.p 5, .int .i64 e2, L.p 5, .int .i64 e1] ++ D d 15 116)) (fun L => [(L2.b 0, BC (su (su (fun _ => 0) 0 tv) j vb) 48), (L2.b 1, BC (su (su (fun _ => 0) 0 tv) j vb) 96), (L6.b 5, GC P1), (L7.b 5, T2.GC P2), (L.b 5, GC P1)]) hp10 ⟨
    oM, oCS (fun L => #[.slice (some ⟨(L2.b 0), 0, none⟩) 48 48]) (fun L w hs => by have h := ref5Take1 R _ 48 48 (su (su (fun _ => 0) 0 tv) j vb) w (box_at (seen_at hs (k := 0) rfl)) hr1; rw [ht1] at h; exact h),
    oM, oX, oX, oZ rG, oT rG, oA,
    trivial⟩ (fun L10 _ w11 hp11 => ?_)
  refine k14 _ _ ?_
  refine wp_seq_k (fun K15 k15 => ?_)
  refine gsD [.det (.slice (some ⟨(L2.b 1), 0, none⟩) 96 96), .det (.tuple #[T2.GV P2, .int .i64 e2]), .det (.tuple #[T2.GV P2, .int .i64 e2]), .det (T2.GV P2), .det (.int .i64 e2), .alloc (T2.GC ⟨0, 0, false⟩), .store (.new 5) 0 (T2.GC P2) (T2.GC P2), .det (.int .i64 e2)] [0, 1, 2, 3, 4, 5, 6, 7] [0, 1, 3, 7, 7, 0, 47, 127] (fun L d => D d 0 9 ++ ([L6.p 5, .int .i64 e1, L7.p 5, .int .i64 e2, L10.p 5, .int .i64 e1, L.p 5, .int .i64 e2] ++ D d 17 114)) (fun L => [(L2.b 0, BC (su (su (fun _ => 0) 0 tv) j vb) 48), (L2.b 1, BC (su (su (fun _ => 0) 0 tv) j vb) 96), (L6.b 5, GC P1), (L7.b 5, T2.GC P2), (L10.b 5, GC P1), (L.b 5, T2.GC P2)]) hp11 ⟨
    oM, oCS (fun L => #[.slice (some ⟨(L2.b 1), 0, none⟩) 96 96]) (fun L w hs => by have h := T2.ref5Take2 R _ 96 96 (su (su (fun _ => 0) 0 tv) j vb) w (box_at (seen_at hs (k := 1) rfl)) hr2; rw [ht2] at h; exact h),
    oM, oX, oX, oZ T2.rG, oT T2.rG, oA,
    trivial⟩ (fun L11 _ w12 hp12 => ?_)
  refine k15 _ _ ?_
  refine wp_seq_k (fun K16 k16 => ?_)
  refine gsD [.det (.int .i64 e1), .det (.int .i64 e1), .det (.bool true), .det (.bool true), .det (GV P1), .det (GV P1), .det (.bool true), .det (.bool true), .det (.bool true), .det (.int .i64 e2), .det (.int .i64 e2), .det (.bool true), .det (.bool true), .det (.bool true), .det (T2.GV P2), .det (T2.GV P2), .det (.bool true), .det (.bool true), .det (.bool true)] [0, 1, 2, 3, 4, 5, 6, 7, 8, 9, 10, 11, 12, 13, 14, 15, 16, 17, 18] [0, 0, 3, 7, 15, 15, 63, 127, 255, 511, 511, 2047, 4095, 8191, 16383, 16383, 65535, 131071, 262143] (fun L d => D d 0 6 ++ ([.bool true] ++ D d 7 124)) (fun L => [(L2.b 0, BC (su (su (fun _ => 0) 0 tv) j vb) 48), (L2.b 1, BC (su (su (fun _ => 0) 0 tv) j vb) 96), (L6.b 5, GC P1), (L7.b 5, T2.GC P2), (L10.b 5, GC P1), (L11.b 5, T2.GC P2)]) hp12 ⟨
    oM, oM, oJ .i64 .i64 e1 e1 (h := fun w => (eqlI _ _ _ _ w).trans (by rw [decide_eq_true rfl])), oM, oL 2 0 rG, oL 4 0 rG, oE (a := P1) (b := P1) qG (yes rfl),
    oP, oM, oM, oM, oJ .i64 .i64 e2 e2 (h := fun w => (eqlI _ _ _ _ w).trans (by rw [decide_eq_true rfl])), oP, oM, oL 3 0 T2.rG, oL 5 0 T2.rG, oE (a := P2) (b := P2) T2.qG (yes rfl),
    oP, oA,
    trivial⟩ (fun L12 _ w13 hp13 => ?_)
  refine k16 _ _ ?_
  refine wp_ret ?_
  refine bodyPost_ret (v := .bool true) ?_ rfl ?_
  · exact res_t rfl (by kernel_rfl) _
  · exact ⟨rfl, hp13.bel⟩
end Go.Proofs.YtmibajbpimcfnaaGreatDoor.fpn

/- PointHeads walked. -/
namespace Go.Proofs.YtmibajbpimcfnaaGreatDoor.fpn
open Go.RowKit Pl EC
set_option linter.unusedVariables false
set_option linter.unusedSimpArgs false
set_option maxRecDepth 4000

theorem or_tab : ∀ (t : Fin 8) (x : Fin 32), bits .or .u8 ((t.val : Int) * 32) (x.val : Int) = (t.val : Int) * 32 + x.val := by decide +kernel
theorem or_low {t x : Int} (ht : 0 ≤ t ∧ t < 8) (hx : 0 ≤ x ∧ x < 32) : bits .or .u8 (t * 32) x = t * 32 + x := by
  have := or_tab ⟨t.toNat, by omega⟩ ⟨x.toNat, by omega⟩
  rwa [show (((⟨t.toNat, by omega⟩ : Fin 8).val : Nat) : Int) = t from Int.toNat_of_nonneg ht.1, show (((⟨x.toNat, by omega⟩ : Fin 32).val : Nat) : Int) = x from Int.toNat_of_nonneg hx.1] at this
def hF (t x : Int) (j : Nat) : Nat → Int := su (su (fun _ => 0) 0 (t * 32)) j (bits .or .u8 (su (fun _ => 0) 0 (t * 32) j) x)
theorem hF_v {t x : Int} {j : Nat} (ht : 0 ≤ t ∧ t < 8) (hx : 0 ≤ x ∧ x < 32) : bits .or .u8 (su (fun _ => 0) 0 (t * 32) j) x = (if j = 0 then t * 32 + x else x) := by
  by_cases h : j = 0
  · subst h; rw [su_at, if_pos rfl]; exact or_low ht hx
  · rw [su_ne h, if_neg h]
    have := or_low (t := 0) ⟨by decide, by decide⟩ hx
    rwa [Int.zero_mul, Int.zero_add] at this
theorem hF_at {t x : Int} {j : Nat} (ht : 0 ≤ t ∧ t < 8) (hx : 0 ≤ x ∧ x < 32) (i : Nat) : hF t x j i = (if i = 0 then t * 32 else 0) + (if i = j then x else 0) := by
  unfold hF
  by_cases h : i = j
  · subst h
    rw [su_at, hF_v ht hx, if_pos rfl]
    by_cases h0 : i = 0
    · rw [if_pos h0, if_pos h0]
    · rw [if_neg h0, if_neg h0, Int.zero_add]
  · rw [su_ne h, if_neg h, Int.add_zero]
    by_cases h0 : i = 0
    · subst h0; rw [su_at, if_pos rfl]
    · rw [su_ne h0, if_neg h0]
theorem hF_rg {t x : Int} {j : Nat} (ht : 0 ≤ t ∧ t < 8) (hx : 0 ≤ x ∧ x < 32) (i : Nat) : 0 ≤ hF t x j i ∧ hF t x j i < 256 := by
  rw [hF_at ht hx]
  split <;> split <;> omega
theorem hF_0 {t x : Int} {j : Nat} (ht : 0 ≤ t ∧ t < 8) (hx : 0 ≤ x ∧ x < 32) : hF t x j 0 / 32 = t ∧ hF t x j 0 % 32 = (if 0 = j then x else 0) := by
  rw [hF_at ht hx, if_pos rfl]
  split <;> omega
theorem hF_su {t x : Int} {j : Nat} (ht : 0 ≤ t ∧ t < 8) (hx : 0 ≤ x ∧ x < 32) (i : Nat) : su (hF t x j) 0 (hF t x j 0 % 32) i = (if i = j then x else 0) := by
  by_cases h : i = 0
  · subst h; rw [su_at]; exact (hF_0 ht hx).2
  · rw [su_ne h, hF_at ht hx, if_neg h, Int.zero_add]
theorem hF_hdz {t x : Int} {j : Nat} (ht : 0 ≤ t ∧ t < 8) (hx : 0 ≤ x ∧ x < 32) {n : Nat} (hj : j < n) : hdz (hF t x j) n = (decide (x = 0) && !decide (t = 7)) := by
  unfold hdz
  rw [(hF_0 ht hx).1]
  by_cases h0 : x = 0
  · rw [decide_eq_true h0]
    by_cases h7 : t = 7
    · rw [decide_eq_true h7]; exact decide_eq_false fun h => h.2 h7
    · rw [decide_eq_false h7]; exact decide_eq_true ⟨fun i _ => by rw [hF_su ht hx, h0]; split <;> rfl, h7⟩
  · rw [decide_eq_false h0]
    exact decide_eq_false fun h => h0 (by have := h.1 j hj; rwa [hF_su ht hx, if_pos rfl] at this)
theorem tkA_hF {t x : Int} {j : Nat} (ht : 0 ≤ t ∧ t < 8) (hx : 0 ≤ x ∧ x < 32) (hj : j < 48) (h4 : ¬ (4 ≤ t ∧ t < 6)) : tkA (hF t x j) 48 = (if t = 6 ∧ x = 0 then .tuple #[GV ⟨0, 0, true⟩, .int .i64 0] else tkE 3) := by
  unfold tkA
  rw [if_neg (by decide), if_neg (by decide), (hF_0 ht hx).1]
  by_cases hl : t < 4
  · rw [if_pos hl, if_neg (by omega)]
  · rw [if_neg hl, if_pos (by omega), hF_hdz ht hx hj]
    by_cases h : t = 6 ∧ x = 0
    · rw [if_pos h, decide_eq_true h.2, decide_eq_false (by omega)]; rfl
    · rw [if_neg h]
      by_cases h0 : x = 0
      · rw [decide_eq_true h0, decide_eq_true (show t = 7 by omega)]; rfl
      · rw [decide_eq_false h0]; rfl
theorem tkB_hF {t x : Int} {j : Nat} (ht : 0 ≤ t ∧ t < 8) (hx : 0 ≤ x ∧ x < 32) (hj : j < 48) (h4 : ¬ (4 ≤ t ∧ t < 6)) : T2.tkB (hF t x j) 96 = (if t = 6 ∧ x = 0 then .tuple #[T2.GV ⟨0, 0, true⟩, .int .i64 0] else T2.tkF 3) := by
  unfold T2.tkB
  rw [if_neg (by decide), if_neg (by decide), (hF_0 ht hx).1]
  by_cases hl : t < 4
  · rw [if_pos hl, if_neg (by omega)]
  · rw [if_neg hl, if_pos (by omega), hF_hdz ht hx (show j < 96 by omega)]
    by_cases h : t = 6 ∧ x = 0
    · rw [if_pos h, decide_eq_true h.2, decide_eq_false (by omega)]; rfl
    · rw [if_neg h]
      by_cases h0 : x = 0
      · rw [decide_eq_true h0, decide_eq_true (show t = 7 by omega)]; rfl
      · rw [decide_eq_false h0]; rfl
theorem pointHeads_walk {G : World → Prop} (K : PtK G) (R : RefK) (tp at_ xb : Nat) (w : World) (hg : G w) (h1 : tp < 256) (h2 : at_ < 256) (h3 : xb < 256) : Calls Tryz.prog 8 #[.int .u8 ((tp : Nat) : Int), .int .u8 ((at_ : Nat) : Int), .int .u8 ((xb : Nat) : Int)] w (Ret (.bool true) w) := by
  obtain ⟨t, et⟩ : ∃ t : Int, ((tp : Nat) : Int) % 8 = t := ⟨_, rfl⟩
  obtain ⟨x, ex⟩ : ∃ x : Int, ((xb : Nat) : Int) % 32 = x := ⟨_, rfl⟩
  obtain ⟨j, ej⟩ : ∃ j : Nat, at_ % 48 = j := ⟨_, rfl⟩
  have ht : 0 ≤ t ∧ t < 8 := by omega
  have hx : 0 ≤ x ∧ x < 32 := by omega
  have hj : j < 48 := by omega
  have hv : 0 ≤ t * 32 ∧ t * 32 < 256 := by omega
  have r1 : ∀ i, i < 48 → 0 ≤ hF t x j i ∧ hF t x j i < 256 := fun i _ => hF_rg ht hx i
  have r2 : ∀ i, i < 96 → 0 ≤ hF t x j i ∧ hF t x j i < 256 := fun i _ => hF_rg ht hx i
  by_cases h4 : 4 ≤ t ∧ t < 6
  · obtain ⟨P1, e1, q1⟩ := tk_some1 (hF t x j) 48
    obtain ⟨P2, e2, q2⟩ := tk_some2 (hF t x j) 96
    exact headsE K R tp at_ xb j t _ x _ P1 P2 e1 e2 w hg ej hj h2 et rfl hv ex rfl r1 r2 q1 q2 (by omega) (by omega) (by omega)
  have a := tkA_hF ht hx hj h4
  have b := tkB_hF ht hx hj h4
  by_cases hl : t < 4
  · rw [if_neg (by omega)] at a b
    exact headsA K R tp at_ xb j t _ x _ w hg ej hj h2 et rfl hv ex rfl r1 r2 a b hl
  by_cases h7 : t = 7
  · rw [if_neg (by omega)] at a b
    exact headsB K R tp at_ xb j t _ x _ w hg ej hj h2 et rfl hv ex rfl r1 r2 a b hl h7
  have h6 : t = 6 := by omega
  by_cases h0 : x = 0
  · rw [if_pos ⟨h6, h0⟩] at a b
    exact headsD K R tp at_ xb j t _ x _ w hg ej hj h2 et rfl hv ex rfl r1 r2 a b hl h7 h6 h0
  · rw [if_neg (fun h => h0 h.2)] at a b
    exact headsC K R tp at_ xb j t _ x _ w hg ej hj h2 et rfl hv ex rfl r1 r2 a b hl h7 h6 h0
end Go.Proofs.YtmibajbpimcfnaaGreatDoor.fpn
