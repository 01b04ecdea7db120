/- UD UE. -/
import Derived.Test.YthnfgmhehfombaaGreatDoorNF
import Derived.Test.YthnfgmhehfombaaGreatDoorPD
import Derived.Test.YthnfgmhehfombaaGreatDoorGG
import Derived.Test.YthnfgmhehfombaaGreatDoorGW
/- PairingMultiplies walked. -/
namespace Go.Proofs.YthnfgmhehfombaaGreatDoor.fpn
open Go.RowKit Pl EC
set_option linter.unusedVariables false
set_option linter.unusedSimpArgs false
set_option maxRecDepth 4000

theorem remL (t : TypeId) (a b c : Int) (h : a % b = c) (h0 : 0 ≤ a) (hb : 0 < b) (w : World) : (binOp .rem t (.int .u64 a) (.int .u64 b)).run Tryz.prog w = .ok (.int .u64 c) w := by
  have e : a.tmod b = c := by rw [Int.tmod_eq_emod_of_nonneg h0]; exact h
  have h1 : ¬ b = 0 := by omega
  simp [binOp, Op.intDiv, Sem.run_bind, h1, e]
theorem gtrL (t : TypeId) (a b : Int) (w : World) : (binOp .gtr t (.int .u64 a) (.int .u64 b)).run Tryz.prog w = .ok (.bool (decide (b < a))) w := by simp [binOp, Op.intCmp, Sem.run_bind]
theorem tellG {G : World → Prop} (K : PairK G) {g1 : Pt F} {g2 : Pt F2} (hg1 : g1 = gen1) (hg2 : g2 = gen2) {v : F12} (hv : npw F12.gt 1 = v) (w : World) (hg : G w) : Calls Tryz.prog 16 #[GV (gp g1), T2.GV (T2.gp g2)] w (Ret (V12 v) w) := by
  have h := tellS K hg1 hg2 1 1 hv w hg
  rwa [EC.mul_one, EC.mul_one] at h
theorem powRS (R : RefK) {x y : F12} (hx : npw x ordR = y) {v : Value} {w : World} (hv : isFour (RC ordR) v w) : Calls Tryz.prog 19 #[V12 x, v] w (Ret (V12 y) w) := by
  obtain ⟨b, off, c, rfl, hc⟩ := hv
  rw [← hx]
  exact ref5Pow12 R x _ 4 c (lb ordR) ordR w (by decide) (atR' hc) (lb_rg _ _) (lbR ordR_256)
set_option maxHeartbeats 4000000 in
theorem pairMul0 {G : World → Prop} (K : PairK G) (R : RefK) (a b k : Nat) (r : Int) (g1 : Pt F) (g2 : Pt F2) (x y : F12) (w : World) (hg : G w) (ha6 : a < 2 ^ 256) (hb6 : b < 2 ^ 256) (ha : ¬ a < ordR) (hg1 : g1 = gen1) (hg2 : g2 = gen2) (h1 : On (4 : F) g1) (h2 : On b2 g2) : Calls Tryz.prog 4 #[RV a, RV b] w (Ret (.bool true) w) := by
  have hp0 := Heap.start w
  go_enter Tryz.func4, Tryz.ntmps4
  refine wp_seq_k (fun K1 k1 => ?_)
  refine gsD [.alloc (RC a), .alloc (RC b), .det (.bool false)] [0, 1, 2] [0, 0, 0] (fun L d => D d 0 2 ++ ([L.p 0] ++ D d 3 66)) (fun L => [(L.b 0, RC a), (L.b 1, RC b)]) hp0 ⟨
    oB, oB, oA,
    trivial⟩ (fun L0 _ w1 hp1 => ?_)
  refine k1 _ _ ?_
  refine wp_seq_k (fun K2 k2 => ?_)
  refine wp_seq_k (fun K3 k3 => ?_)
  refine gsD [.det (.bool true), .det (.bool false)] [0, 1] [0, 1] (fun L d => D d 0 2 ++ ([L0.p 0] ++ (D d 3 8 ++ ([.bool false] ++ D d 12 57)))) (fun L => [(L0.b 0, RC a), (L0.b 1, RC b)]) hp1 ⟨
    oC K.stay hg (begun11 K R), oN,
    trivial⟩ (fun L1 _ w2 hp2 => ?_)
  refine k3 _ _ ?_
  refine wp_cond_false (by kernel_rfl) ?_
  refine skips ?_
  refine k2 _ _ ?_
  refine wp_seq_k (fun K4 k4 => ?_)
  refine wp_seq_k (fun K5 k5 => ?_)
  refine gsD [.det (RV a), .det (.bool false), .det (.bool true), .det (.bool true), .det undef, .det undef, .det undef, .det (.bool true)] [0, 1, 2, 3, 4, 5, 6, 7] [0, 1, 3, 7, 15, 31, 63, 127] (fun L d => D d 0 19 ++ ([.bool true] ++ D d 20 49)) (fun L => [(L0.b 0, RC a), (L0.b 1, RC b)]) hp2 ⟨
    oL 0 0 rR, oH (v := .bool false) (vs := #[RV a]) (fun w _ _ => by have h := mayR ha6 w; rw [decide_eq_false ha] at h; exact h), oN, oM, oS, oS, oS, oP,
    trivial⟩ (fun L2 _ w3 hp3 => ?_)
  refine k5 _ _ ?_
  refine wp_cond_true (by kernel_rfl) ?_
  refine wp_seq_k (fun K6 k6 => ?_)
  refine gsD [.det (.bool true)] [0] [0] (fun L d => D d 0 4 ++ ([.bool true] ++ D d 5 64)) (fun L => [(L0.b 0, RC a), (L0.b 1, RC b)]) hp3 ⟨
    oA,
    trivial⟩ (fun L3 _ w4 hp4 => ?_)
  refine k6 _ _ ?_
  refine wp_ret ?_
  refine bodyPost_ret (v := .bool true) ?_ rfl ?_
  · exact res_t rfl (by kernel_rfl) _
  · exact ⟨rfl, hp4.bel⟩
set_option maxHeartbeats 4000000 in
theorem pairMul1 {G : World → Prop} (K : PairK G) (R : RefK) (a b k : Nat) (r : Int) (g1 : Pt F) (g2 : Pt F2) (x y : F12) (w : World) (hg : G w) (ha6 : a < 2 ^ 256) (hb6 : b < 2 ^ 256) (ha : a < ordR) (hb : ¬ b < ordR) (hg1 : g1 = gen1) (hg2 : g2 = gen2) (h1 : On (4 : F) g1) (h2 : On b2 g2) : Calls Tryz.prog 4 #[RV a, RV b] w (Ret (.bool true) w) := by
  have hp0 := Heap.start w
  go_enter Tryz.func4, Tryz.ntmps4
  refine wp_seq_k (fun K1 k1 => ?_)
  refine gsD [.alloc (RC a), .alloc (RC b), .det (.bool false)] [0, 1, 2] [0, 0, 0] (fun L d => D d 0 2 ++ ([L.p 0, L.p 1] ++ D d 4 65)) (fun L => [(L.b 0, RC a), (L.b 1, RC b)]) hp0 ⟨
    oB, oB, oA,
    trivial⟩ (fun L0 _ w1 hp1 => ?_)
  refine k1 _ _ ?_
  refine wp_seq_k (fun K2 k2 => ?_)
  refine wp_seq_k (fun K3 k3 => ?_)
  refine gsD [.det (.bool true), .det (.bool false)] [0, 1] [0, 1] (fun L d => D d 0 2 ++ ([L0.p 0, L0.p 1] ++ (D d 4 7 ++ ([.bool false] ++ D d 12 57)))) (fun L => [(L0.b 0, RC a), (L0.b 1, RC b)]) hp1 ⟨
    oC K.stay hg (begun11 K R), oN,
    trivial⟩ (fun L1 _ w2 hp2 => ?_)
  refine k3 _ _ ?_
  refine wp_cond_false (by kernel_rfl) ?_
  refine skips ?_
  refine k2 _ _ ?_
  refine wp_seq_k (fun K4 k4 => ?_)
  refine wp_seq_k (fun K5 k5 => ?_)
  refine gsD [.det (RV a), .det (.bool true), .det (.bool false), .det (.bool false), .det (RV b), .det (.bool false), .det (.bool true), .det (.bool true)] [0, 1, 2, 3, 4, 5, 6, 7] [0, 1, 3, 7, 15, 31, 63, 127] (fun L d => D d 0 19 ++ ([.bool true] ++ D d 20 49)) (fun L => [(L0.b 0, RC a), (L0.b 1, RC b)]) hp2 ⟨
    oL 0 0 rR, oH (v := .bool true) (vs := #[RV a]) (fun w _ _ => by have h := mayR ha6 w; rw [decide_eq_true ha] at h; exact h), oN, oM, oL 1 0 rR, oH (v := .bool false) (vs := #[RV b]) (fun w _ _ => by have h := mayR hb6 w; rw [decide_eq_false hb] at h; exact h),
    oN, oP,
    trivial⟩ (fun L2 _ w3 hp3 => ?_)
  refine k5 _ _ ?_
  refine wp_cond_true (by kernel_rfl) ?_
  refine wp_seq_k (fun K6 k6 => ?_)
  refine gsD [.det (.bool true)] [0] [0] (fun L d => D d 0 4 ++ ([.bool true] ++ D d 5 64)) (fun L => [(L0.b 0, RC a), (L0.b 1, RC b)]) hp3 ⟨
    oA,
    trivial⟩ (fun L3 _ w4 hp4 => ?_)
  refine k6 _ _ ?_
  refine wp_ret ?_
  refine bodyPost_ret (v := .bool true) ?_ rfl ?_
  · exact res_t rfl (by kernel_rfl) _
  · exact ⟨rfl, hp4.bel⟩
set_option maxHeartbeats 4000000 in
theorem pairMul0t {G : World → Prop} (K : PairK G) (R : RefK) (a b k : Nat) (r : Int) (g1 : Pt F) (g2 : Pt F2) (x y : F12) (w : World) (hg : G w) (ha6 : a < 2 ^ 256) (hb6 : b < 2 ^ 256) (ha : a < ordR) (hb : b < ordR) (hg1 : g1 = gen1) (hg2 : g2 = gen2) (h1 : On (4 : F) g1) (h2 : On b2 g2) (hk : a * b % ordR = k) (hk6 : k < 2 ^ 256) (hx : npw F12.gt 1 = x) (hy : npw F12.gt (a * b) = y) (hxR : npw x ordR = 1) (hxy : npw x k = y) (hx1 : x ≠ 1) (hr : lb a 0 % 4 = r) (h0 : k = 0) (hy1 : y = 1) (hq : 0 < r) : Calls Tryz.prog 4 #[RV a, RV b] w (Ret (.bool true) w) := by
  have hp0 := Heap.start w
  go_enter Tryz.func4, Tryz.ntmps4
  refine wp_seq_k (fun K1 k1 => ?_)
  refine gsD [.alloc (RC a), .alloc (RC b), .det (.bool false)] [0, 1, 2] [0, 0, 0] (fun L d => D d 0 2 ++ ([L.p 0, L.p 1] ++ D d 4 65)) (fun L => [(L.b 0, RC a), (L.b 1, RC b)]) hp0 ⟨
    oB, oB, oA,
    trivial⟩ (fun L0 _ w1 hp1 => ?_)
  refine k1 _ _ ?_
  refine wp_seq_k (fun K2 k2 => ?_)
  refine wp_seq_k (fun K3 k3 => ?_)
  refine gsD [.det (.bool true), .det (.bool false)] [0, 1] [0, 1] (fun L d => D d 0 2 ++ ([L0.p 0, L0.p 1] ++ (D d 4 7 ++ ([.bool false] ++ D d 12 57)))) (fun L => [(L0.b 0, RC a), (L0.b 1, RC b)]) hp1 ⟨
    oC K.stay hg (begun11 K R), oN,
    trivial⟩ (fun L1 _ w2 hp2 => ?_)
  refine k3 _ _ ?_
  refine wp_cond_false (by kernel_rfl) ?_
  refine skips ?_
  refine k2 _ _ ?_
  refine wp_seq_k (fun K4 k4 => ?_)
  refine wp_seq_k (fun K5 k5 => ?_)
  refine gsD [.det (RV a), .det (.bool true), .det (.bool false), .det (.bool false), .det (RV b), .det (.bool true), .det (.bool false), .det (.bool false)] [0, 1, 2, 3, 4, 5, 6, 7] [0, 1, 3, 7, 15, 31, 63, 127] (fun L d => D d 0 2 ++ ([L0.p 0, L0.p 1] ++ (D d 4 15 ++ ([.bool false] ++ D d 20 49)))) (fun L => [(L0.b 0, RC a), (L0.b 1, RC b)]) hp2 ⟨
    oL 0 0 rR, oH (v := .bool true) (vs := #[RV a]) (fun w _ _ => by have h := mayR ha6 w; rw [decide_eq_true ha] at h; exact h), oN, oM, oL 1 0 rR, oH (v := .bool true) (vs := #[RV b]) (fun w _ _ => by have h := mayR hb6 w; rw [decide_eq_true hb] at h; exact h),
    oN, oP,
    trivial⟩ (fun L2 _ w3 hp3 => ?_)
  refine k5 _ _ ?_
  refine wp_cond_false (by kernel_rfl) ?_
  refine skips ?_
  refine k4 _ _ ?_
  refine wp_seq_k (fun K6 k6 => ?_)
  refine gsD [.det (GV (gp g1)), .det (T2.GV (T2.gp g2)), .det (V12 x), .alloc (C12 0), .store (.new 3) 0 (C12 x) (C12 x)] [0, 1, 2, 3, 4] [0, 1, 3, 0, 15] (fun L d => D d 0 2 ++ ([L0.p 0, L0.p 1, d 4, L.p 3] ++ D d 6 63)) (fun L => [(L0.b 0, RC a), (L0.b 1, RC b), (L.b 3, C12 x)]) hp3 ⟨
    oR (by rw [hg1]; exact ref5Gen1 R), oR (by rw [hg2]; exact T2.ref5Gen1 R), oC K.stay hg (tellG K hg1 hg2 hx), oZ r12, oT r12,
    trivial⟩ (fun L3 _ w4 hp4 => ?_)
  refine k6 _ _ ?_
  refine wp_seq_k (fun K7 k7 => ?_)
  refine drD [.det (RV a), .det (GV (gp (mul finv a g1))), .det (RV b), .det (T2.GV (T2.gp (mul F2.inv b g2))), .det (V12 y), .alloc (C12 0), .store (.new 5) 0 (C12 y) (C12 y)] [0, 1, 2, 3, 4, 5, 6] [0, 1, 0, 7, 15, 0, 63] (fun L d => D d 0 2 ++ ([L0.p 0, L0.p 1, d 4, L3.p 3, L.p 5] ++ D d 7 62)) (fun L => [(L0.b 0, RC a), (L0.b 1, RC b), (L3.b 3, C12 x), (L.b 5, C12 y)]) hp4 ⟨
    oL 0 0 rR, oH (v := GV (gp (mul finv a g1))) (vs := #[RV a]) (fun w _ _ => law11g1 R a g1 w ha6 hg1 h1), oL 1 0 rR, oH (v := T2.GV (T2.gp (mul F2.inv b g2))) (vs := #[RV b]) (fun w _ _ => law11g2 R b g2 w hb6 hg2 h2),
    oC K.stay hg (tellS K hg1 hg2 a b hy), oZ r12, oT r12,
    trivial⟩ (fun L4 _ w5 hp5 => ?_)
  refine k7 _ _ ?_
  refine wp_seq_k (fun K8 k8 => ?_)
  refine gsD [.det (RV a), .det (RV b), .det (RV k), .alloc (RC 0), .store (.new 3) 0 (RC k) (RC k)] [0, 1, 2, 3, 4] [0, 0, 3, 0, 15] (fun L d => D d 0 2 ++ ([L0.p 0] ++ (D d 3 2 ++ ([L3.p 3, L4.p 5, L.p 3] ++ D d 8 61)))) (fun L => [(L0.b 0, RC a), (L0.b 1, RC b), (L3.b 3, C12 x), (L4.b 5, C12 y), (L.b 3, RC k)]) hp5 ⟨
    oL 0 0 rR, oL 1 0 rR, oR (hk ▸ mulR ha hb), oZ rR, oT rR,
    trivial⟩ (fun L5 _ w6 hp6 => ?_)
  refine k8 _ _ ?_
  refine wp_seq_k (fun K9 k9 => ?_)
  refine gsD [.det (V12 1), .alloc (C12 0), .store (.new 1) 0 (C12 1) (C12 1)] [0, 1, 2] [0, 0, 3] (fun L d => D d 0 2 ++ ([L0.p 0] ++ (D d 3 2 ++ ([L3.p 3, L4.p 5, L5.p 3, L.p 1] ++ D d 9 60)))) (fun L => [(L0.b 0, RC a), (L0.b 1, RC b), (L3.b 3, C12 x), (L4.b 5, C12 y), (L5.b 3, RC k), (L.b 1, C12 1)]) hp6 ⟨
    oR (ref5One12 R), oZ r12, oT r12,
    trivial⟩ (fun L6 _ w7 hp7 => ?_)
  refine k9 _ _ ?_
  refine wp_seq_k (fun K10 k10 => ?_)
  refine drD [.det (L0.p 0), .det (.int .u64 (lb a 0)), .det (.int .u64 r), .det (.bool true), .det (.bool true), .det undef, .det undef, .det undef, .det undef, .det undef, .det (.bool true), .det (.bool true)] [0, 1, 2, 3, 4, 5, 6, 7, 8, 9, 10, 11] [0, 1, 3, 7, 15, 31, 31, 127, 31, 511, 1023, 2047] (fun L d => D d 0 5 ++ ([L3.p 3, L4.p 5, L5.p 3, L6.p 1, .bool true] ++ D d 10 59)) (fun L => [(L0.b 0, RC a), (L0.b 1, RC b), (L3.b 3, C12 x), (L4.b 5, C12 y), (L5.b 3, RC k), (L6.b 1, C12 1)]) hp7 ⟨
    oI aR, oL1 0 0 oneU, oJ .u64 .u64 (lb a 0) 4 (h := fun w => remL _ _ _ _ hr (lb_rg a 4 0 (by decide)).1 (by decide) w), oJ .u64 .u64 r 0 (h := fun w => (gtrL _ _ _ w).trans (by rw [decide_eq_true hq])),
    oM, oS, oS, oS, oS, oS, oP, oA,
    trivial⟩ (fun L7 _ w8 hp8 => ?_)
  refine k10 _ _ ?_
  refine wp_seq_k (fun K11 k11 => ?_)
  refine drD [.det (V12 x), .det (.bool true), .det (.bool true), .det (V12 x), .det (V12 1), .det (.bool true), .det (.bool true), .det (.bool true), .det (.bool true), .det (.bool true), .det (.bool true), .det (V12 y), .det (V12 x), .det (.slice (some ⟨(L5.b 3), 0, none⟩) 4 4), .det (V12 y), .det (.bool true), .det (.bool true), .det (.bool true), .det (V12 y), .det (V12 1), .det (.bool true), .det (RV k), .det (RV 0), .det (.bool true), .det (.bool true), .det (.bool true), .det (.bool true)] [0, 1, 2, 3, 4, 5, 6, 7, 8, 9, 10, 11, 12, 13, 14, 15, 16, 17, 18, 19, 20, 21, 22, 23, 24, 25, 26] [0, 1, 3, 7, 7, 31, 63, 127, 255, 511, 1023, 2047, 2047, 2047, 14335, 32767, 65535, 131071, 262143, 262143, 1048575, 262143, 262143, 6553599, 16777215, 33554431, 67108863] (fun L d => D d 0 4 ++ ([.bool true] ++ D d 5 64)) (fun L => [(L0.b 0, RC a), (L0.b 1, RC b), (L3.b 3, C12 x), (L4.b 5, C12 y), (L5.b 3, RC k), (L6.b 1, C12 1)]) hp8 ⟨
    oL 2 0 r12, oR (ref5May12P R x), oM, oL 2 0 r12, oL 5 0 r12, oU (a := x) (b := 1) q12 (yes' hx1), oP, oM, oM, oP, oM, oL 3 0 r12, oL 2 0 r12, oSA (sz := 1) Tryz.underlying27 (by kernel_rfl) (by decide),
    oCS (fun L => #[V12 x, .slice (some ⟨(L5.b 3), 0, none⟩) 4 4]) (fun L w hs => by have h := ref5Pow12 R x _ 4 4 (lb k) k w (by decide) (atR (seen_at (k := 4) hs rfl)) (lb_rg _ _) (lbR hk6); rw [hxy] at h; exact h),
    oE (a := y) (b := y) q12 (yes rfl), oP, oM, oL 3 0 r12, oL 5 0 r12, oE (a := y) (b := 1) q12 (yes hy1), oL 4 0 rR, oD buildRn, oW (u := RV k) (v := RV 0) (r := .bool true) (fun w => guardR _ _ _ _ _ w) (fun w => eqlR0 hk6 _ (decide_eq_true h0) w),
    oE (a := true) (b := true) qB (yes rfl), oP, oA,
    trivial⟩ (fun L8 _ w9 hp9 => ?_)
  refine k11 _ _ ?_
  refine wp_ret ?_
  refine bodyPost_ret (v := .bool true) ?_ rfl ?_
  · exact res_t rfl (by kernel_rfl) _
  · exact ⟨rfl, hp9.bel⟩
set_option maxHeartbeats 4000000 in
theorem pairMul0f {G : World → Prop} (K : PairK G) (R : RefK) (a b k : Nat) (r : Int) (g1 : Pt F) (g2 : Pt F2) (x y : F12) (w : World) (hg : G w) (ha6 : a < 2 ^ 256) (hb6 : b < 2 ^ 256) (ha : a < ordR) (hb : b < ordR) (hg1 : g1 = gen1) (hg2 : g2 = gen2) (h1 : On (4 : F) g1) (h2 : On b2 g2) (hk : a * b % ordR = k) (hk6 : k < 2 ^ 256) (hx : npw F12.gt 1 = x) (hy : npw F12.gt (a * b) = y) (hxR : npw x ordR = 1) (hxy : npw x k = y) (hx1 : x ≠ 1) (hr : lb a 0 % 4 = r) (h0 : k = 0) (hy1 : y = 1) (hq : ¬ 0 < r) : Calls Tryz.prog 4 #[RV a, RV b] w (Ret (.bool true) w) := by
  have hp0 := Heap.start w
  go_enter Tryz.func4, Tryz.ntmps4
  refine wp_seq_k (fun K1 k1 => ?_)
  refine gsD [.alloc (RC a), .alloc (RC b), .det (.bool false)] [0, 1, 2] [0, 0, 0] (fun L d => D d 0 2 ++ ([L.p 0, L.p 1] ++ D d 4 65)) (fun L => [(L.b 0, RC a), (L.b 1, RC b)]) hp0 ⟨
    oB, oB, oA,
    trivial⟩ (fun L0 _ w1 hp1 => ?_)
  refine k1 _ _ ?_
  refine wp_seq_k (fun K2 k2 => ?_)
  refine wp_seq_k (fun K3 k3 => ?_)
  refine gsD [.det (.bool true), .det (.bool false)] [0, 1] [0, 1] (fun L d => D d 0 2 ++ ([L0.p 0, L0.p 1] ++ (D d 4 7 ++ ([.bool false] ++ D d 12 57)))) (fun L => [(L0.b 0, RC a), (L0.b 1, RC b)]) hp1 ⟨
    oC K.stay hg (begun11 K R), oN,
    trivial⟩ (fun L1 _ w2 hp2 => ?_)
  refine k3 _ _ ?_
  refine wp_cond_false (by kernel_rfl) ?_
  refine skips ?_
  refine k2 _ _ ?_
  refine wp_seq_k (fun K4 k4 => ?_)
  refine wp_seq_k (fun K5 k5 => ?_)
  refine gsD [.det (RV a), .det (.bool true), .det (.bool false), .det (.bool false), .det (RV b), .det (.bool true), .det (.bool false), .det (.bool false)] [0, 1, 2, 3, 4, 5, 6, 7] [0, 1, 3, 7, 15, 31, 63, 127] (fun L d => D d 0 2 ++ ([L0.p 0, L0.p 1] ++ (D d 4 15 ++ ([.bool false] ++ D d 20 49)))) (fun L => [(L0.b 0, RC a), (L0.b 1, RC b)]) hp2 ⟨
    oL 0 0 rR, oH (v := .bool true) (vs := #[RV a]) (fun w _ _ => by have h := mayR ha6 w; rw [decide_eq_true ha] at h; exact h), oN, oM, oL 1 0 rR, oH (v := .bool true) (vs := #[RV b]) (fun w _ _ => by have h := mayR hb6 w; rw [decide_eq_true hb] at h; exact h),
    oN, oP,
    trivial⟩ (fun L2 _ w3 hp3 => ?_)
  refine k5 _ _ ?_
  refine wp_cond_false (by kernel_rfl) ?_
  refine skips ?_
  refine k4 _ _ ?_
  refine wp_seq_k (fun K6 k6 => ?_)
  refine gsD [.det (GV (gp g1)), .det (T2.GV (T2.gp g2)), .det (V12 x), .alloc (C12 0), .store (.new 3) 0 (C12 x) (C12 x)] [0, 1, 2, 3, 4] [0, 1, 3, 0, 15] (fun L d => D d 0 2 ++ ([L0.p 0, L0.p 1, d 4, L.p 3] ++ D d 6 63)) (fun L => [(L0.b 0, RC a), (L0.b 1, RC b), (L.b 3, C12 x)]) hp3 ⟨
    oR (by rw [hg1]; exact ref5Gen1 R), oR (by rw [hg2]; exact T2.ref5Gen1 R), oC K.stay hg (tellG K hg1 hg2 hx), oZ r12, oT r12,
    trivial⟩ (fun L3 _ w4 hp4 => ?_)
  refine k6 _ _ ?_
  refine wp_seq_k (fun K7 k7 => ?_)
  refine drD [.det (RV a), .det (GV (gp (mul finv a g1))), .det (RV b), .det (T2.GV (T2.gp (mul F2.inv b g2))), .det (V12 y), .alloc (C12 0), .store (.new 5) 0 (C12 y) (C12 y)] [0, 1, 2, 3, 4, 5, 6] [0, 1, 0, 7, 15, 0, 63] (fun L d => D d 0 2 ++ ([L0.p 0, L0.p 1, d 4, L3.p 3, L.p 5] ++ D d 7 62)) (fun L => [(L0.b 0, RC a), (L0.b 1, RC b), (L3.b 3, C12 x), (L.b 5, C12 y)]) hp4 ⟨
    oL 0 0 rR, oH (v := GV (gp (mul finv a g1))) (vs := #[RV a]) (fun w _ _ => law11g1 R a g1 w ha6 hg1 h1), oL 1 0 rR, oH (v := T2.GV (T2.gp (mul F2.inv b g2))) (vs := #[RV b]) (fun w _ _ => law11g2 R b g2 w hb6 hg2 h2),
    oC K.stay hg (tellS K hg1 hg2 a b hy), oZ r12, oT r12,
    trivial⟩ (fun L4 _ w5 hp5 => ?_)
  refine k7 _ _ ?_
  refine wp_seq_k (fun K8 k8 => ?_)
  refine gsD [.det (RV a), .det (RV b), .det (RV k), .alloc (RC 0), .store (.new 3) 0 (RC k) (RC k)] [0, 1, 2, 3, 4] [0, 0, 3, 0, 15] (fun L d => D d 0 2 ++ ([L0.p 0] ++ (D d 3 2 ++ ([L3.p 3, L4.p 5, L.p 3] ++ D d 8 61)))) (fun L => [(L0.b 0, RC a), (L0.b 1, RC b), (L3.b 3, C12 x), (L4.b 5, C12 y), (L.b 3, RC k)]) hp5 ⟨
    oL 0 0 rR, oL 1 0 rR, oR (hk ▸ mulR ha hb), oZ rR, oT rR,
    trivial⟩ (fun L5 _ w6 hp6 => ?_)
  refine k8 _ _ ?_
  refine wp_seq_k (fun K9 k9 => ?_)
  refine gsD [.det (V12 1), .alloc (C12 0), .store (.new 1) 0 (C12 1) (C12 1)] [0, 1, 2] [0, 0, 3] (fun L d => D d 0 2 ++ ([L0.p 0] ++ (D d 3 2 ++ ([L3.p 3, L4.p 5, L5.p 3, L.p 1] ++ D d 9 60)))) (fun L => [(L0.b 0, RC a), (L0.b 1, RC b), (L3.b 3, C12 x), (L4.b 5, C12 y), (L5.b 3, RC k), (L.b 1, C12 1)]) hp6 ⟨
    oR (ref5One12 R), oZ r12, oT r12,
    trivial⟩ (fun L6 _ w7 hp7 => ?_)
  refine k9 _ _ ?_
  refine wp_seq_k (fun K10 k10 => ?_)
  refine drD [.det (L0.p 0), .det (.int .u64 (lb a 0)), .det (.int .u64 r), .det (.bool false), .det (.bool false), .det (V12 x), .any (isFour (RC ordR)), .det (V12 1), .det (V12 1), .det (.bool true), .det (.bool true), .det (.bool true)] [0, 1, 2, 3, 4, 5, 6, 7, 8, 9, 10, 11] [0, 1, 3, 7, 15, 31, 31, 127, 31, 511, 1023, 2047] (fun L d => D d 0 5 ++ ([L3.p 3, L4.p 5, L5.p 3, L6.p 1, .bool true] ++ D d 10 59)) (fun L => [(L0.b 0, RC a), (L0.b 1, RC b), (L3.b 3, C12 x), (L4.b 5, C12 y), (L5.b 3, RC k), (L6.b 1, C12 1)]) hp7 ⟨
    oI aR, oL1 0 0 oneU, oJ .u64 .u64 (lb a 0) 4 (h := fun w => remL _ _ _ _ hr (lb_rg a 4 0 (by decide)).1 (by decide) w), oJ .u64 .u64 r 0 (h := fun w => (gtrL _ _ _ w).trans (by rw [decide_eq_false hq])),
    oM, oL 2 0 r12, oY (fun L => #[]) isFour_stay (fun _ w _ => refR_new w), oCS (fun L => #[V12 x, L.v 6]) (fun L w hs => powRS R hxR (hs.any 6 _ rfl rfl)), oL 5 0 r12,
    oE (a := 1) (b := 1) q12 (yes rfl), oP, oA,
    trivial⟩ (fun L7 _ w8 hp8 => ?_)
  refine k10 _ _ ?_
  refine wp_seq_k (fun K11 k11 => ?_)
  refine drD [.det (V12 x), .det (.bool true), .det (.bool true), .det (V12 x), .det (V12 1), .det (.bool true), .det (.bool true), .det (.bool true), .det (.bool true), .det (.bool true), .det (.bool true), .det (V12 y), .det (V12 x), .det (.slice (some ⟨(L5.b 3), 0, none⟩) 4 4), .det (V12 y), .det (.bool true), .det (.bool true), .det (.bool true), .det (V12 y), .det (V12 1), .det (.bool true), .det (RV k), .det (RV 0), .det (.bool true), .det (.bool true), .det (.bool true), .det (.bool true)] [0, 1, 2, 3, 4, 5, 6, 7, 8, 9, 10, 11, 12, 13, 14, 15, 16, 17, 18, 19, 20, 21, 22, 23, 24, 25, 26] [0, 1, 3, 7, 7, 31, 63, 127, 255, 511, 1023, 2047, 2047, 2047, 14335, 32767, 65535, 131071, 262143, 262143, 1048575, 262143, 262143, 6553599, 16777215, 33554431, 67108863] (fun L d => D d 0 4 ++ ([.bool true] ++ D d 5 64)) (fun L => [(L0.b 0, RC a), (L0.b 1, RC b), (L3.b 3, C12 x), (L4.b 5, C12 y), (L5.b 3, RC k), (L6.b 1, C12 1)]) hp8 ⟨
    oL 2 0 r12, oR (ref5May12P R x), oM, oL 2 0 r12, oL 5 0 r12, oU (a := x) (b := 1) q12 (yes' hx1), oP, oM, oM, oP, oM, oL 3 0 r12, oL 2 0 r12, oSA (sz := 1) Tryz.underlying27 (by kernel_rfl) (by decide),
    oCS (fun L => #[V12 x, .slice (some ⟨(L5.b 3), 0, none⟩) 4 4]) (fun L w hs => by have h := ref5Pow12 R x _ 4 4 (lb k) k w (by decide) (atR (seen_at (k := 4) hs rfl)) (lb_rg _ _) (lbR hk6); rw [hxy] at h; exact h),
    oE (a := y) (b := y) q12 (yes rfl), oP, oM, oL 3 0 r12, oL 5 0 r12, oE (a := y) (b := 1) q12 (yes hy1), oL 4 0 rR, oD buildRn, oW (u := RV k) (v := RV 0) (r := .bool true) (fun w => guardR _ _ _ _ _ w) (fun w => eqlR0 hk6 _ (decide_eq_true h0) w),
    oE (a := true) (b := true) qB (yes rfl), oP, oA,
    trivial⟩ (fun L8 _ w9 hp9 => ?_)
  refine k11 _ _ ?_
  refine wp_ret ?_
  refine bodyPost_ret (v := .bool true) ?_ rfl ?_
  · exact res_t rfl (by kernel_rfl) _
  · exact ⟨rfl, hp9.bel⟩
set_option maxHeartbeats 4000000 in
theorem pairMul1t {G : World → Prop} (K : PairK G) (R : RefK) (a b k : Nat) (r : Int) (g1 : Pt F) (g2 : Pt F2) (x y : F12) (w : World) (hg : G w) (ha6 : a < 2 ^ 256) (hb6 : b < 2 ^ 256) (ha : a < ordR) (hb : b < ordR) (hg1 : g1 = gen1) (hg2 : g2 = gen2) (h1 : On (4 : F) g1) (h2 : On b2 g2) (hk : a * b % ordR = k) (hk6 : k < 2 ^ 256) (hx : npw F12.gt 1 = x) (hy : npw F12.gt (a * b) = y) (hxR : npw x ordR = 1) (hxy : npw x k = y) (hx1 : x ≠ 1) (hr : lb a 0 % 4 = r) (h0 : ¬ k = 0) (hy1 : y ≠ 1) (hq : 0 < r) : Calls Tryz.prog 4 #[RV a, RV b] w (Ret (.bool true) w) := by
  have hp0 := Heap.start w
  go_enter Tryz.func4, Tryz.ntmps4
  refine wp_seq_k (fun K1 k1 => ?_)
  refine gsD [.alloc (RC a), .alloc (RC b), .det (.bool false)] [0, 1, 2] [0, 0, 0] (fun L d => D d 0 2 ++ ([L.p 0, L.p 1] ++ D d 4 65)) (fun L => [(L.b 0, RC a), (L.b 1, RC b)]) hp0 ⟨
    oB, oB, oA,
    trivial⟩ (fun L0 _ w1 hp1 => ?_)
  refine k1 _ _ ?_
  refine wp_seq_k (fun K2 k2 => ?_)
  refine wp_seq_k (fun K3 k3 => ?_)
  refine gsD [.det (.bool true), .det (.bool false)] [0, 1] [0, 1] (fun L d => D d 0 2 ++ ([L0.p 0, L0.p 1] ++ (D d 4 7 ++ ([.bool false] ++ D d 12 57)))) (fun L => [(L0.b 0, RC a), (L0.b 1, RC b)]) hp1 ⟨
    oC K.stay hg (begun11 K R), oN,
    trivial⟩ (fun L1 _ w2 hp2 => ?_)
  refine k3 _ _ ?_
  refine wp_cond_false (by kernel_rfl) ?_
  refine skips ?_
  refine k2 _ _ ?_
  refine wp_seq_k (fun K4 k4 => ?_)
  refine wp_seq_k (fun K5 k5 => ?_)
  refine gsD [.det (RV a), .det (.bool true), .det (.bool false), .det (.bool false), .det (RV b), .det (.bool true), .det (.bool false), .det (.bool false)] [0, 1, 2, 3, 4, 5, 6, 7] [0, 1, 3, 7, 15, 31, 63, 127] (fun L d => D d 0 2 ++ ([L0.p 0, L0.p 1] ++ (D d 4 15 ++ ([.bool false] ++ D d 20 49)))) (fun L => [(L0.b 0, RC a), (L0.b 1, RC b)]) hp2 ⟨
    oL 0 0 rR, oH (v := .bool true) (vs := #[RV a]) (fun w _ _ => by have h := mayR ha6 w; rw [decide_eq_true ha] at h; exact h), oN, oM, oL 1 0 rR, oH (v := .bool true) (vs := #[RV b]) (fun w _ _ => by have h := mayR hb6 w; rw [decide_eq_true hb] at h; exact h),
    oN, oP,
    trivial⟩ (fun L2 _ w3 hp3 => ?_)
  refine k5 _ _ ?_
  refine wp_cond_false (by kernel_rfl) ?_
  refine skips ?_
  refine k4 _ _ ?_
  refine wp_seq_k (fun K6 k6 => ?_)
  refine gsD [.det (GV (gp g1)), .det (T2.GV (T2.gp g2)), .det (V12 x), .alloc (C12 0), .store (.new 3) 0 (C12 x) (C12 x)] [0, 1, 2, 3, 4] [0, 1, 3, 0, 15] (fun L d => D d 0 2 ++ ([L0.p 0, L0.p 1, d 4, L.p 3] ++ D d 6 63)) (fun L => [(L0.b 0, RC a), (L0.b 1, RC b), (L.b 3, C12 x)]) hp3 ⟨
    oR (by rw [hg1]; exact ref5Gen1 R), oR (by rw [hg2]; exact T2.ref5Gen1 R), oC K.stay hg (tellG K hg1 hg2 hx), oZ r12, oT r12,
    trivial⟩ (fun L3 _ w4 hp4 => ?_)
  refine k6 _ _ ?_
  refine wp_seq_k (fun K7 k7 => ?_)
  refine drD [.det (RV a), .det (GV (gp (mul finv a g1))), .det (RV b), .det (T2.GV (T2.gp (mul F2.inv b g2))), .det (V12 y), .alloc (C12 0), .store (.new 5) 0 (C12 y) (C12 y)] [0, 1, 2, 3, 4, 5, 6] [0, 1, 0, 7, 15, 0, 63] (fun L d => D d 0 2 ++ ([L0.p 0, L0.p 1, d 4, L3.p 3, L.p 5] ++ D d 7 62)) (fun L => [(L0.b 0, RC a), (L0.b 1, RC b), (L3.b 3, C12 x), (L.b 5, C12 y)]) hp4 ⟨
    oL 0 0 rR, oH (v := GV (gp (mul finv a g1))) (vs := #[RV a]) (fun w _ _ => law11g1 R a g1 w ha6 hg1 h1), oL 1 0 rR, oH (v := T2.GV (T2.gp (mul F2.inv b g2))) (vs := #[RV b]) (fun w _ _ => law11g2 R b g2 w hb6 hg2 h2),
    oC K.stay hg (tellS K hg1 hg2 a b hy), oZ r12, oT r12,
    trivial⟩ (fun L4 _ w5 hp5 => ?_)
  refine k7 _ _ ?_
  refine wp_seq_k (fun K8 k8 => ?_)
  refine gsD [.det (RV a), .det (RV b), .det (RV k), .alloc (RC 0), .store (.new 3) 0 (RC k) (RC k)] [0, 1, 2, 3, 4] [0, 0, 3, 0, 15] (fun L d => D d 0 2 ++ ([L0.p 0] ++ (D d 3 2 ++ ([L3.p 3, L4.p 5, L.p 3] ++ D d 8 61)))) (fun L => [(L0.b 0, RC a), (L0.b 1, RC b), (L3.b 3, C12 x), (L4.b 5, C12 y), (L.b 3, RC k)]) hp5 ⟨
    oL 0 0 rR, oL 1 0 rR, oR (hk ▸ mulR ha hb), oZ rR, oT rR,
    trivial⟩ (fun L5 _ w6 hp6 => ?_)
  refine k8 _ _ ?_
  refine wp_seq_k (fun K9 k9 => ?_)
  refine gsD [.det (V12 1), .alloc (C12 0), .store (.new 1) 0 (C12 1) (C12 1)] [0, 1, 2] [0, 0, 3] (fun L d => D d 0 2 ++ ([L0.p 0] ++ (D d 3 2 ++ ([L3.p 3, L4.p 5, L5.p 3, L.p 1] ++ D d 9 60)))) (fun L => [(L0.b 0, RC a), (L0.b 1, RC b), (L3.b 3, C12 x), (L4.b 5, C12 y), (L5.b 3, RC k), (L.b 1, C12 1)]) hp6 ⟨
    oR (ref5One12 R), oZ r12, oT r12,
    trivial⟩ (fun L6 _ w7 hp7 => ?_)
  refine k9 _ _ ?_
  refine wp_seq_k (fun K10 k10 => ?_)
  refine drD [.det (L0.p 0), .det (.int .u64 (lb a 0)), .det (.int .u64 r), .det (.bool true), .det (.bool true), .det undef, .det undef, .det undef, .det undef, .det undef, .det (.bool true), .det (.bool true)] [0, 1, 2, 3, 4, 5, 6, 7, 8, 9, 10, 11] [0, 1, 3, 7, 15, 31, 31, 127, 31, 511, 1023, 2047] (fun L d => D d 0 5 ++ ([L3.p 3, L4.p 5, L5.p 3, L6.p 1, .bool true] ++ D d 10 59)) (fun L => [(L0.b 0, RC a), (L0.b 1, RC b), (L3.b 3, C12 x), (L4.b 5, C12 y), (L5.b 3, RC k), (L6.b 1, C12 1)]) hp7 ⟨
    oI aR, oL1 0 0 oneU, oJ .u64 .u64 (lb a 0) 4 (h := fun w => remL _ _ _ _ hr (lb_rg a 4 0 (by decide)).1 (by decide) w), oJ .u64 .u64 r 0 (h := fun w => (gtrL _ _ _ w).trans (by rw [decide_eq_true hq])),
    oM, oS, oS, oS, oS, oS, oP, oA,
    trivial⟩ (fun L7 _ w8 hp8 => ?_)
  refine k10 _ _ ?_
  refine wp_seq_k (fun K11 k11 => ?_)
  refine drD [.det (V12 x), .det (.bool true), .det (.bool true), .det (V12 x), .det (V12 1), .det (.bool true), .det (.bool true), .det (.bool true), .det (.bool true), .det (.bool true), .det (.bool true), .det (V12 y), .det (V12 x), .det (.slice (some ⟨(L5.b 3), 0, none⟩) 4 4), .det (V12 y), .det (.bool true), .det (.bool true), .det (.bool true), .det (V12 y), .det (V12 1), .det (.bool false), .det (RV k), .det (RV 0), .det (.bool false), .det (.bool true), .det (.bool true), .det (.bool true)] [0, 1, 2, 3, 4, 5, 6, 7, 8, 9, 10, 11, 12, 13, 14, 15, 16, 17, 18, 19, 20, 21, 22, 23, 24, 25, 26] [0, 1, 3, 7, 7, 31, 63, 127, 255, 511, 1023, 2047, 2047, 2047, 14335, 32767, 65535, 131071, 262143, 262143, 1048575, 262143, 262143, 6553599, 16777215, 33554431, 67108863] (fun L d => D d 0 4 ++ ([.bool true] ++ D d 5 64)) (fun L => [(L0.b 0, RC a), (L0.b 1, RC b), (L3.b 3, C12 x), (L4.b 5, C12 y), (L5.b 3, RC k), (L6.b 1, C12 1)]) hp8 ⟨
    oL 2 0 r12, oR (ref5May12P R x), oM, oL 2 0 r12, oL 5 0 r12, oU (a := x) (b := 1) q12 (yes' hx1), oP, oM, oM, oP, oM, oL 3 0 r12, oL 2 0 r12, oSA (sz := 1) Tryz.underlying27 (by kernel_rfl) (by decide),
    oCS (fun L => #[V12 x, .slice (some ⟨(L5.b 3), 0, none⟩) 4 4]) (fun L w hs => by have h := ref5Pow12 R x _ 4 4 (lb k) k w (by decide) (atR (seen_at (k := 4) hs rfl)) (lb_rg _ _) (lbR hk6); rw [hxy] at h; exact h),
    oE (a := y) (b := y) q12 (yes rfl), oP, oM, oL 3 0 r12, oL 5 0 r12, oE (a := y) (b := 1) q12 (nay hy1), oL 4 0 rR, oD buildRn, oW (u := RV k) (v := RV 0) (r := .bool false) (fun w => guardR _ _ _ _ _ w) (fun w => eqlR0 hk6 _ (decide_eq_false h0) w),
    oE (a := false) (b := false) qB (yes rfl), oP, oA,
    trivial⟩ (fun L8 _ w9 hp9 => ?_)
  refine k11 _ _ ?_
  refine wp_ret ?_
  refine bodyPost_ret (v := .bool true) ?_ rfl ?_
  · exact res_t rfl (by kernel_rfl) _
  · exact ⟨rfl, hp9.bel⟩
set_option maxHeartbeats 4000000 in
theorem pairMul1f {G : World → Prop} (K : PairK G) (R : RefK) (a b k : Nat) (r : Int) (g1 : Pt F) (g2 : Pt F2) (x y : F12) (w : World) (hg : G w) (ha6 : a < 2 ^ 256) (hb6 : b < 2 ^ 256) (ha : a < ordR) (hb : b < ordR) (hg1 : g1 = gen1) (hg2 : g2 = gen2) (h1 : On (4 : F) g1) (h2 : On b2 g2) (hk : a * b % ordR = k) (hk6 : k < 2 ^ 256) (hx : npw F12.gt 1 = x) (hy : npw F12.gt (a * b) = y) (hxR : npw x ordR = 1) (hxy : npw x k = y) (hx1 : x ≠ 1) (hr : lb a 0 % 4 = r) (h0 : ¬ k = 0) (hy1 : y ≠ 1) (hq : ¬ 0 < r) : Calls Tryz.prog 4 #[RV a, RV b] w (Ret (.bool true) w) := by
  have hp0 := Heap.start w
  go_enter Tryz.func4, Tryz.ntmps4
  refine wp_seq_k (fun K1 k1 => ?_)
  refine gsD [.alloc (RC a), .alloc (RC b), .det (.bool false)] [0, 1, 2] [0, 0, 0] (fun L d => D d 0 2 ++ ([L.p 0, L.p 1] ++ D d 4 65)) (fun L => [(L.b 0, RC a), (L.b 1, RC b)]) hp0 ⟨
    oB, oB, oA,
    trivial⟩ (fun L0 _ w1 hp1 => ?_)
  refine k1 _ _ ?_
  refine wp_seq_k (fun K2 k2 => ?_)
  refine wp_seq_k (fun K3 k3 => ?_)
  refine gsD [.det (.bool true), .det (.bool false)] [0, 1] [0, 1] (fun L d => D d 0 2 ++ ([L0.p 0, L0.p 1] ++ (D d 4 7 ++ ([.bool false] ++ D d 12 57)))) (fun L => [(L0.b 0, RC a), (L0.b 1, RC b)]) hp1 ⟨
    oC K.stay hg (begun11 K R), oN,
    trivial⟩ (fun L1 _ w2 hp2 => ?_)
  refine k3 _ _ ?_
  refine wp_cond_false (by kernel_rfl) ?_
  refine skips ?_
  refine k2 _ _ ?_
  refine wp_seq_k (fun K4 k4 => ?_)
  refine wp_seq_k (fun K5 k5 => ?_)
  refine gsD [.det (RV a), .det (.bool true), .det (.bool false), .det (.bool false), .det (RV b), .det (.bool true), .det (.bool false), .det (.bool false)] [0, 1, 2, 3, 4, 5, 6, 7] [0, 1, 3, 7, 15, 31, 63, 127] (fun L d => D d 0 2 ++ ([L0.p 0, L0.p 1] ++ (D d 4 15 ++ ([.bool false] ++ D d 20 49)))) (fun L => [(L0.b 0, RC a), (L0.b 1, RC b)]) hp2 ⟨
    oL 0 0 rR, oH (v := .bool true) (vs := #[RV a]) (fun w _ _ => by have h := mayR ha6 w; rw [decide_eq_true ha] at h; exact h), oN, oM, oL 1 0 rR, oH (v := .bool true) (vs := #[RV b]) (fun w _ _ => by have h := mayR hb6 w; rw [decide_eq_true hb] at h; exact h),
    oN, oP,
    trivial⟩ (fun L2 _ w3 hp3 => ?_)
  refine k5 _ _ ?_
  refine wp_cond_false (by kernel_rfl) ?_
  refine skips ?_
  refine k4 _ _ ?_
  refine wp_seq_k (fun K6 k6 => ?_)
  refine gsD [.det (GV (gp g1)), .det (T2.GV (T2.gp g2)), .det (V12 x), .alloc (C12 0), .store (.new 3) 0 (C12 x) (C12 x)] [0, 1, 2, 3, 4] [0, 1, 3, 0, 15] (fun L d => D d 0 2 ++ ([L0.p 0, L0.p 1, d 4, L.p 3] ++ D d 6 63)) (fun L => [(L0.b 0, RC a), (L0.b 1, RC b), (L.b 3, C12 x)]) hp3 ⟨
    oR (by rw [hg1]; exact ref5Gen1 R), oR (by rw [hg2]; exact T2.ref5Gen1 R), oC K.stay hg (tellG K hg1 hg2 hx), oZ r12, oT r12,
    trivial⟩ (fun L3 _ w4 hp4 => ?_)
  refine k6 _ _ ?_
  refine wp_seq_k (fun K7 k7 => ?_)
  refine drD [.det (RV a), .det (GV (gp (mul finv a g1))), .det (RV b), .det (T2.GV (T2.gp (mul F2.inv b g2))), .det (V12 y), .alloc (C12 0), .store (.new 5) 0 (C12 y) (C12 y)] [0, 1, 2, 3, 4, 5, 6] [0, 1, 0, 7, 15, 0, 63] (fun L d => D d 0 2 ++ ([L0.p 0, L0.p 1, d 4, L3.p 3, L.p 5] ++ D d 7 62)) (fun L => [(L0.b 0, RC a), (L0.b 1, RC b), (L3.b 3, C12 x), (L.b 5, C12 y)]) hp4 ⟨
    oL 0 0 rR, oH (v := GV (gp (mul finv a g1))) (vs := #[RV a]) (fun w _ _ => law11g1 R a g1 w ha6 hg1 h1), oL 1 0 rR, oH (v := T2.GV (T2.gp (mul F2.inv b g2))) (vs := #[RV b]) (fun w _ _ => law11g2 R b g2 w hb6 hg2 h2),
    oC K.stay hg (tellS K hg1 hg2 a b hy), oZ r12, oT r12,
    trivial⟩ (fun L4 _ w5 hp5 => ?_)
  refine k7 _ _ ?_
  refine wp_seq_k (fun K8 k8 => ?_)
  refine gsD [.det (RV a), .det (RV b), .det (RV k), .alloc (RC 0), .store (.new 3) 0 (RC k) (RC k)] [0, 1, 2, 3, 4] [0, 0, 3, 0, 15] (fun L d => D d 0 2 ++ ([L0.p 0] ++ (D d 3 2 ++ ([L3.p 3, L4.p 5, L.p 3] ++ D d 8 61)))) (fun L => [(L0.b 0, RC a), (L0.b 1, RC b), (L3.b 3, C12 x), (L4.b 5, C12 y), (L.b 3, RC k)]) hp5 ⟨
    oL 0 0 rR, oL 1 0 rR, oR (hk ▸ mulR ha hb), oZ rR, oT rR,
    trivial⟩ (fun L5 _ w6 hp6 => ?_)
  refine k8 _ _ ?_
  refine wp_seq_k (fun K9 k9 => ?_)
  refine gsD [.det (V12 1), .alloc (C12 0), .store (.new 1) 0 (C12 1) (C12 1)] [0, 1, 2] [0, 0, 3] (fun L d => D d 0 2 ++ ([L0.p 0] ++ (D d 3 2 ++ ([L3.p 3, L4.p 5, L5.p 3, L.p 1] ++ D d 9 60)))) (fun L => [(L0.b 0, RC a), (L0.b 1, RC b), (L3.b 3, C12 x), (L4.b 5, C12 y), (L5.b 3, RC k), (L.b 1, C12 1)]) hp6 ⟨
    oR (ref5One12 R), oZ r12, oT r12,
    trivial⟩ (fun L6 _ w7 hp7 => ?_)
  refine k9 _ _ ?_
  refine wp_seq_k (fun K10 k10 => ?_)
  refine drD [.det (L0.p 0), .det (.int .u64 (lb a 0)), .det (.int .u64 r), .det (.bool false), .det (.bool false), .det (V12 x), .any (isFour (RC ordR)), .det (V12 1), .det (V12 1), .det (.bool true), .det (.bool true), .det (.bool true)] [0, 1, 2, 3, 4, 5, 6, 7, 8, 9, 10, 11] [0, 1, 3, 7, 15, 31, 31, 127, 31, 511, 1023, 2047] (fun L d => D d 0 5 ++ ([L3.p 3, L4.p 5, L5.p 3, L6.p 1, .bool true] ++ D d 10 59)) (fun L => [(L0.b 0, RC a), (L0.b 1, RC b), (L3.b 3, C12 x), (L4.b 5, C12 y), (L5.b 3, RC k), (L6.b 1, C12 1)]) hp7 ⟨
    oI aR, oL1 0 0 oneU, oJ .u64 .u64 (lb a 0) 4 (h := fun w => remL _ _ _ _ hr (lb_rg a 4 0 (by decide)).1 (by decide) w), oJ .u64 .u64 r 0 (h := fun w => (gtrL _ _ _ w).trans (by rw [decide_eq_false hq])),
    oM, oL 2 0 r12, oY (fun L => #[]) isFour_stay (fun _ w _ => refR_new w), oCS (fun L => #[V12 x, L.v 6]) (fun L w hs => powRS R hxR (hs.any 6 _ rfl rfl)), oL 5 0 r12,
    oE (a := 1) (b := 1) q12 (yes rfl), oP, oA,
    trivial⟩ (fun L7 _ w8 hp8 => ?_)
  refine k10 _ _ ?_
  refine wp_seq_k (fun K11 k11 => ?_)
  refine drD [.det (V12 x), .det (.bool true), .det (.bool true), .det (V12 x), .det (V12 1), .det (.bool true), .det (.bool true), .det (.bool true), .det (.bool true), .det (.bool true), .det (.bool true), .det (V12 y), .det (V12 x), .det (.slice (some ⟨(L5.b 3), 0, none⟩) 4 4), .det (V12 y), .det (.bool true), .det (.bool true), .det (.bool true), .det (V12 y), .det (V12 1), .det (.bool false), .det (RV k), .det (RV 0), .det (.bool false), .det (.bool true), .det (.bool true), .det (.bool true)] [0, 1, 2, 3, 4, 5, 6, 7, 8, 9, 10, 11, 12, 13, 14, 15, 16, 17, 18, 19, 20, 21, 22, 23, 24, 25, 26] [0, 1, 3, 7, 7, 31, 63, 127, 255, 511, 1023, 2047, 2047, 2047, 14335, 32767, 65535, 131071, 262143, 262143, 1048575, 262143, 262143, 6553599, 16777215, 33554431, 67108863] (fun L d => D d 0 4 ++ ([.bool true] ++ D d 5 64)) (fun L => [(L0.b 0, RC a), (L0.b 1, RC b), (L3.b 3, C12 x), (L4.b 5, C12 y), (L5.b 3, RC k), (L6.b 1, C12 1)]) hp8 ⟨
    oL 2 0 r12, oR (ref5May12P R x), oM, oL 2 0 r12, oL 5 0 r12, oU (a := x) (b := 1) q12 (yes' hx1), oP, oM, oM, oP, oM, oL 3 0 r12, oL 2 0 r12, oSA (sz := 1) Tryz.underlying27 (by kernel_rfl) (by decide),
    oCS (fun L => #[V12 x, .slice (some ⟨(L5.b 3), 0, none⟩) 4 4]) (fun L w hs => by have h := ref5Pow12 R x _ 4 4 (lb k) k w (by decide) (atR (seen_at (k := 4) hs rfl)) (lb_rg _ _) (lbR hk6); rw [hxy] at h; exact h),
    oE (a := y) (b := y) q12 (yes rfl), oP, oM, oL 3 0 r12, oL 5 0 r12, oE (a := y) (b := 1) q12 (nay hy1), oL 4 0 rR, oD buildRn, oW (u := RV k) (v := RV 0) (r := .bool false) (fun w => guardR _ _ _ _ _ w) (fun w => eqlR0 hk6 _ (decide_eq_false h0) w),
    oE (a := false) (b := false) qB (yes rfl), oP, oA,
    trivial⟩ (fun L8 _ w9 hp9 => ?_)
  refine k11 _ _ ?_
  refine wp_ret ?_
  refine bodyPost_ret (v := .bool true) ?_ rfl ?_
  · exact res_t rfl (by kernel_rfl) _
  · exact ⟨rfl, hp9.bel⟩
theorem pairingMultiplies_walk {G : World → Prop} (K : PairK G) (R : RefK) (a b : Nat) (w : World) (hg : G w) (ha6 : a < 2 ^ 256) (hb6 : b < 2 ^ 256) : Calls Tryz.prog 4 #[RV a, RV b] w (Ret (.bool true) w) := by
  by_cases ha : a < ordR
  · by_cases hb : b < ordR
    · have e1 : npw F12.gt 1 = F12.gt := npw_one _
      have hxy : npw (npw F12.gt 1) (a * b % ordR) = npw F12.gt (a * b) := by rw [e1]; exact npw_mod F12.gt_R _
      have hk6 : a * b % ordR < 2 ^ 256 := Nat.lt_trans (Nat.mod_lt _ ordR_pos) ordR_256
      have hxR : npw (npw F12.gt 1) ordR = 1 := by rw [e1]; exact F12.gt_R
      have hx1 : npw F12.gt 1 ≠ 1 := by rw [e1]; exact F12.gt_ne
      by_cases h0 : a * b % ordR = 0
      · have hy1 : npw F12.gt (a * b) = 1 := (F12.gt_iff _).2 h0
        by_cases hq : 0 < lb a 0 % 4
        · exact pairMul0t K R a b _ _ gen1 gen2 _ _ w hg ha6 hb6 ha hb rfl rfl gen1_on gen2_on rfl hk6 rfl rfl hxR hxy hx1 rfl h0 hy1 hq
        · exact pairMul0f K R a b _ _ gen1 gen2 _ _ w hg ha6 hb6 ha hb rfl rfl gen1_on gen2_on rfl hk6 rfl rfl hxR hxy hx1 rfl h0 hy1 hq
      · have hy1 : npw F12.gt (a * b) ≠ 1 := fun e => h0 ((F12.gt_iff _).1 e)
        by_cases hq : 0 < lb a 0 % 4
        · exact pairMul1t K R a b _ _ gen1 gen2 _ _ w hg ha6 hb6 ha hb rfl rfl gen1_on gen2_on rfl hk6 rfl rfl hxR hxy hx1 rfl h0 hy1 hq
        · exact pairMul1f K R a b _ _ gen1 gen2 _ _ w hg ha6 hb6 ha hb rfl rfl gen1_on gen2_on rfl hk6 rfl rfl hxR hxy hx1 rfl h0 hy1 hq
    · exact pairMul1 K R a b 0 0 gen1 gen2 0 0 w hg ha6 hb6 ha hb rfl rfl gen1_on gen2_on
  · exact pairMul0 K R a b 0 0 gen1 gen2 0 0 w hg ha6 hb6 ha rfl rfl gen1_on gen2_on
end Go.Proofs.YthnfgmhehfombaaGreatDoor.fpn

/- PairingOut walked. -/
namespace Go.Proofs.YthnfgmhehfombaaGreatDoor.fpn
open Go.RowKit Pl EC
set_option linter.unusedVariables false
set_option linter.unusedSimpArgs false
set_option maxRecDepth 4000

theorem tellO {G : World → Prop} (K : PairK G) {P : Pt F} {g2 : Pt F2} (hg2 : g2 = gen2) (hP : On (4 : F) P) (hn : mul finv ordR P ≠ .inf) (w : World) (hg : G w) : Calls Tryz.prog 16 #[GV (gp P), T2.GV (T2.gp g2)] w (Ret (V12 1) w) := by
  have h := K.tell0 P 1 w hg hP hn
  rw [EC.mul_one] at h
  rw [hg2]; exact h
theorem checkO1 {G : World → Prop} (K : PairK G) {P : Pt F} {q : T2.G2p} (hP : On (4 : F) P) (hn : mul finv ordR P ≠ .inf) {v : Value} {w : World} (hg : G w) (h : isRow1 (ZC ⟨gp P, q⟩) v w) : Calls Tryz.prog 15 #[v] w (Ret (.bool false) w) := by
  obtain ⟨p, rfl, h'⟩ := AtZ.one h
  exact K.check0 P q [] p 1 1 w hg hP hn (by decide) rfl (Nat.le_refl _) (by decide) h'
theorem checkO2 {G : World → Prop} (K : PairK G) {P : Pt F} {q : T2.G2p} {z : Prp} (hP : On (4 : F) P) (hn : mul finv ordR P ≠ .inf) {v : Value} {w : World} (hg : G w) (h : isRow2Z ⟨gp P, q⟩ z v w) : Calls Tryz.prog 15 #[v] w (Ret (.bool false) w) := by
  obtain ⟨p, rfl, h'⟩ := AtZ.two h
  exact K.check0 P q [z] p 2 2 w hg hP hn (by show (1 : Nat) ≤ 19; decide) rfl (Nat.le_refl _) (by decide) h'
theorem checkN {G : World → Prop} (K : PairK G) (w : World) (hg : G w) : Calls Tryz.prog 15 #[.slice none 0 0] w (Ret (.bool true) w) := by
  have h := K.check [] none 0 0 w hg (by decide) rfl (Nat.le_refl _) (by decide) AtZ.nil
  rwa [show decide (zsum [] % ordR = 0) = true by decide +kernel] at h
set_option maxHeartbeats 4000000 in
theorem pairOut0 {G : World → Prop} (K : PairK G) (R : RefK) (n k : Nat) (P : Pt F) (ua : G1p) (g1 : Pt F) (g2 : Pt F2) (w : World) (hg : G w) (hk6 : k < 2 ^ 256) (hg1 : g1 = gen1) (hg2 : g2 = gen2) (h1 : On (4 : F) g1) (h2 : On b2 g2) (hO : ∀ w, Calls Tryz.prog 22 #[.int .u64 ((n : Nat) : Int)] w (Ret (.tuple #[GV ua, .bool false]) w)) : Calls Tryz.prog 5 #[.int .u64 ((n : Nat) : Int), RV k] w (Ret (.bool true) w) := by
  have hp0 := Heap.start w
  go_enter Tryz.func5, Tryz.ntmps5
  refine wp_seq_k (fun K1 k1 => ?_)
  refine gsD [.alloc (RC k), .det (.bool false)] [0, 1] [0, 0] (fun L d => [.int .u64 ((n : Nat) : Int)] ++ D d 1 55) (fun L => [(L.b 0, RC k)]) hp0 ⟨
    oB, oA,
    trivial⟩ (fun L0 _ w1 hp1 => ?_)
  refine k1 _ _ ?_
  refine wp_seq_k (fun K2 k2 => ?_)
  refine wp_seq_k (fun K3 k3 => ?_)
  refine gsD [.det (.bool true), .det (.bool false)] [0, 1] [0, 1] (fun L d => [.int .u64 ((n : Nat) : Int)] ++ (D d 1 7 ++ ([.bool false] ++ D d 9 47))) (fun L => [(L0.b 0, RC k)]) hp1 ⟨
    oC K.stay hg (begun11 K R), oN,
    trivial⟩ (fun L1 _ w2 hp2 => ?_)
  refine k3 _ _ ?_
  refine wp_cond_false (by kernel_rfl) ?_
  refine skips ?_
  refine k2 _ _ ?_
  refine wp_seq_k (fun K4 k4 => ?_)
  refine gsD [.det (.int .u64 ((n : Nat) : Int)), .det (.tuple #[GV ua, .bool false]), .det (.tuple #[GV ua, .bool false]), .det (GV ua), .det (.bool false), .alloc (GC ⟨0, 0, false⟩), .store (.new 5) 0 (GC ua) (GC ua), .det (.bool false)] [0, 1, 2, 3, 4, 5, 6, 7] [0, 1, 3, 7, 7, 0, 47, 127] (fun L d => D d 0 6 ++ ([.bool false] ++ D d 7 49)) (fun L => [(L0.b 0, RC k), (L.b 5, GC ua)]) hp2 ⟨
    oM, oR hO, oM, oX, oX, oZ rG, oT rG, oA,
    trivial⟩ (fun L2 _ w3 hp3 => ?_)
  refine k4 _ _ ?_
  refine wp_seq_k (fun K5 k5 => ?_)
  refine wp_seq_k (fun K6 k6 => ?_)
  refine gsD [.det (.bool false), .det (.bool true), .det (.bool true), .det undef, .det undef, .det undef, .det (.bool true), .det (.bool true), .det undef, .det undef, .det (.bool true)] [0, 1, 2, 3, 4, 5, 6, 7, 8, 9, 10] [0, 1, 3, 7, 15, 31, 63, 127, 255, 511, 1023] (fun L d => D d 0 24 ++ ([.bool true] ++ D d 25 31)) (fun L => [(L0.b 0, RC k), (L2.b 5, GC ua)]) hp3 ⟨
    oM, oN, oM, oS, oS, oS, oP, oM, oS, oS, oP,
    trivial⟩ (fun L3 _ w4 hp4 => ?_)
  refine k6 _ _ ?_
  refine wp_cond_true (by kernel_rfl) ?_
  refine wp_seq_k (fun K7 k7 => ?_)
  refine gsD [.det (.bool true)] [0] [0] (fun L d => D d 0 4 ++ ([.bool true] ++ D d 5 51)) (fun L => [(L0.b 0, RC k), (L2.b 5, GC ua)]) hp4 ⟨
    oA,
    trivial⟩ (fun L4 _ w5 hp5 => ?_)
  refine k7 _ _ ?_
  refine wp_ret ?_
  refine bodyPost_ret (v := .bool true) ?_ rfl ?_
  · exact res_t rfl (by kernel_rfl) _
  · exact ⟨rfl, hp5.bel⟩
set_option maxHeartbeats 4000000 in
theorem pairOut1 {G : World → Prop} (K : PairK G) (R : RefK) (n k : Nat) (P : Pt F) (ua : G1p) (g1 : Pt F) (g2 : Pt F2) (w : World) (hg : G w) (hk6 : k < 2 ^ 256) (hk : ¬ k < ordR) (hg1 : g1 = gen1) (hg2 : g2 = gen2) (h1 : On (4 : F) g1) (h2 : On b2 g2) (hO : ∀ w, Calls Tryz.prog 22 #[.int .u64 ((n : Nat) : Int)] w (Ret (.tuple #[GV (gp P), .bool true]) w)) : Calls Tryz.prog 5 #[.int .u64 ((n : Nat) : Int), RV k] w (Ret (.bool true) w) := by
  have hp0 := Heap.start w
  go_enter Tryz.func5, Tryz.ntmps5
  refine wp_seq_k (fun K1 k1 => ?_)
  refine gsD [.alloc (RC k), .det (.bool false)] [0, 1] [0, 0] (fun L d => [.int .u64 ((n : Nat) : Int), d 1, undef, L.p 0, d 4] ++ U 51) (fun L => [(L.b 0, RC k)]) hp0 ⟨
    oB, oA,
    trivial⟩ (fun L0 _ w1 hp1 => ?_)
  refine k1 _ _ ?_
  refine wp_seq_k (fun K2 k2 => ?_)
  refine wp_seq_k (fun K3 k3 => ?_)
  refine gsD [.det (.bool true), .det (.bool false)] [0, 1] [0, 1] (fun L d => [.int .u64 ((n : Nat) : Int), d 1, undef, L0.p 0, d 4, undef, undef, d 7, .bool false] ++ U 47) (fun L => [(L0.b 0, RC k)]) hp1 ⟨
    oC K.stay hg (begun11 K R), oN,
    trivial⟩ (fun L1 _ w2 hp2 => ?_)
  refine k3 _ _ ?_
  refine wp_cond_false (by kernel_rfl) ?_
  refine skips ?_
  refine k2 _ _ ?_
  refine wp_seq_k (fun K4 k4 => ?_)
  refine gsD [.det (.int .u64 ((n : Nat) : Int)), .det (.tuple #[GV (gp P), .bool true]), .det (.tuple #[GV (gp P), .bool true]), .det (GV (gp P)), .det (.bool true), .alloc (GC ⟨0, 0, false⟩), .store (.new 5) 0 (GC (gp P)) (GC (gp P)), .det (.bool true)] [0, 1, 2, 3, 4, 5, 6, 7] [0, 1, 3, 7, 7, 0, 47, 127] (fun L d => D d 0 3 ++ ([L0.p 0] ++ (D d 4 2 ++ ([.bool true] ++ D d 7 49)))) (fun L => [(L0.b 0, RC k), (L.b 5, GC (gp P))]) hp2 ⟨
    oM, oR hO, oM, oX, oX, oZ rG, oT rG, oA,
    trivial⟩ (fun L2 _ w3 hp3 => ?_)
  refine k4 _ _ ?_
  refine wp_seq_k (fun K5 k5 => ?_)
  refine wp_seq_k (fun K6 k6 => ?_)
  refine gsD [.det (.bool true), .det (.bool false), .det (.bool false), .det (RV k), .det (.bool false), .det (.bool true), .det (.bool true), .det (.bool true), .det undef, .det undef, .det (.bool true)] [0, 1, 2, 3, 4, 5, 6, 7, 8, 9, 10] [0, 1, 3, 7, 15, 31, 63, 127, 255, 511, 1023] (fun L d => D d 0 24 ++ ([.bool true] ++ D d 25 31)) (fun L => [(L0.b 0, RC k), (L2.b 5, GC (gp P))]) hp3 ⟨
    oM, oN, oM, oL 0 0 rR, oH (v := .bool false) (vs := #[RV k]) (fun w _ _ => by have h := mayR hk6 w; rw [decide_eq_false hk] at h; exact h), oN, oP, oM, oS, oS,
    oP,
    trivial⟩ (fun L3 _ w4 hp4 => ?_)
  refine k6 _ _ ?_
  refine wp_cond_true (by kernel_rfl) ?_
  refine wp_seq_k (fun K7 k7 => ?_)
  refine gsD [.det (.bool true)] [0] [0] (fun L d => D d 0 4 ++ ([.bool true] ++ D d 5 51)) (fun L => [(L0.b 0, RC k), (L2.b 5, GC (gp P))]) hp4 ⟨
    oA,
    trivial⟩ (fun L4 _ w5 hp5 => ?_)
  refine k7 _ _ ?_
  refine wp_ret ?_
  refine bodyPost_ret (v := .bool true) ?_ rfl ?_
  · exact res_t rfl (by kernel_rfl) _
  · exact ⟨rfl, hp5.bel⟩
set_option maxHeartbeats 4000000 in
theorem pairOut2 {G : World → Prop} (K : PairK G) (R : RefK) (n k : Nat) (P : Pt F) (ua : G1p) (g1 : Pt F) (g2 : Pt F2) (w : World) (hg : G w) (hk6 : k < 2 ^ 256) (hk : k < ordR) (hg1 : g1 = gen1) (hg2 : g2 = gen2) (h1 : On (4 : F) g1) (h2 : On b2 g2) (hO : ∀ w, Calls Tryz.prog 22 #[.int .u64 ((n : Nat) : Int)] w (Ret (.tuple #[GV (gp P), .bool true]) w)) (hP : On (4 : F) P) (hI : decide (mul finv ordR P = .inf) = true) : Calls Tryz.prog 5 #[.int .u64 ((n : Nat) : Int), RV k] w (Ret (.bool true) w) := by
  have hp0 := Heap.start w
  go_enter Tryz.func5, Tryz.ntmps5
  refine wp_seq_k (fun K1 k1 => ?_)
  refine gsD [.alloc (RC k), .det (.bool false)] [0, 1] [0, 0] (fun L d => [.int .u64 ((n : Nat) : Int), d 1, undef, L.p 0, d 4] ++ U 51) (fun L => [(L.b 0, RC k)]) hp0 ⟨
    oB, oA,
    trivial⟩ (fun L0 _ w1 hp1 => ?_)
  refine k1 _ _ ?_
  refine wp_seq_k (fun K2 k2 => ?_)
  refine wp_seq_k (fun K3 k3 => ?_)
  refine gsD [.det (.bool true), .det (.bool false)] [0, 1] [0, 1] (fun L d => [.int .u64 ((n : Nat) : Int), d 1, undef, L0.p 0, d 4, undef, undef, d 7, .bool false] ++ U 47) (fun L => [(L0.b 0, RC k)]) hp1 ⟨
    oC K.stay hg (begun11 K R), oN,
    trivial⟩ (fun L1 _ w2 hp2 => ?_)
  refine k3 _ _ ?_
  refine wp_cond_false (by kernel_rfl) ?_
  refine skips ?_
  refine k2 _ _ ?_
  refine wp_seq_k (fun K4 k4 => ?_)
  refine gsD [.det (.int .u64 ((n : Nat) : Int)), .det (.tuple #[GV (gp P), .bool true]), .det (.tuple #[GV (gp P), .bool true]), .det (GV (gp P)), .det (.bool true), .alloc (GC ⟨0, 0, false⟩), .store (.new 5) 0 (GC (gp P)) (GC (gp P)), .det (.bool true)] [0, 1, 2, 3, 4, 5, 6, 7] [0, 1, 3, 7, 7, 0, 47, 127] (fun L d => D d 0 3 ++ ([L0.p 0, d 4, L.p 5, .bool true] ++ D d 7 49)) (fun L => [(L0.b 0, RC k), (L.b 5, GC (gp P))]) hp2 ⟨
    oM, oR hO, oM, oX, oX, oZ rG, oT rG, oA,
    trivial⟩ (fun L2 _ w3 hp3 => ?_)
  refine k4 _ _ ?_
  refine wp_seq_k (fun K5 k5 => ?_)
  refine wp_seq_k (fun K6 k6 => ?_)
  refine gsD [.det (.bool true), .det (.bool false), .det (.bool false), .det (RV k), .det (.bool true), .det (.bool false), .det (.bool false), .det (.bool false), .det (GV (gp P)), .det (.bool true), .det (.bool true)] [0, 1, 2, 3, 4, 5, 6, 7, 8, 9, 10] [0, 1, 3, 7, 15, 31, 63, 127, 255, 511, 1023] (fun L d => D d 0 24 ++ ([.bool true] ++ D d 25 31)) (fun L => [(L0.b 0, RC k), (L2.b 5, GC (gp P))]) hp3 ⟨
    oM, oN, oM, oL 0 0 rR, oH (v := .bool true) (vs := #[RV k]) (fun w _ _ => by have h := mayR hk6 w; rw [decide_eq_true hk] at h; exact h), oN, oP, oM, oL 1 0 rG,
    oH (v := .bool true) (vs := #[GV (gp P)]) (fun w _ _ => by have h := ref5In1 R P w hP; rw [hI] at h; exact h), oP,
    trivial⟩ (fun L3 _ w4 hp4 => ?_)
  refine k6 _ _ ?_
  refine wp_cond_true (by kernel_rfl) ?_
  refine wp_seq_k (fun K7 k7 => ?_)
  refine gsD [.det (.bool true)] [0] [0] (fun L d => D d 0 4 ++ ([.bool true] ++ D d 5 51)) (fun L => [(L0.b 0, RC k), (L2.b 5, GC (gp P))]) hp4 ⟨
    oA,
    trivial⟩ (fun L4 _ w5 hp5 => ?_)
  refine k7 _ _ ?_
  refine wp_ret ?_
  refine bodyPost_ret (v := .bool true) ?_ rfl ?_
  · exact res_t rfl (by kernel_rfl) _
  · exact ⟨rfl, hp5.bel⟩
set_option maxHeartbeats 4000000 in
theorem pairOut3 {G : World → Prop} (K : PairK G) (R : RefK) (n k : Nat) (P : Pt F) (ua : G1p) (g1 : Pt F) (g2 : Pt F2) (w : World) (hg : G w) (hk6 : k < 2 ^ 256) (hk : k < ordR) (hg1 : g1 = gen1) (hg2 : g2 = gen2) (h1 : On (4 : F) g1) (h2 : On b2 g2) (hO : ∀ w, Calls Tryz.prog 22 #[.int .u64 ((n : Nat) : Int)] w (Ret (.tuple #[GV (gp P), .bool true]) w)) (hP : On (4 : F) P) (hI : decide (mul finv ordR P = .inf) = false) (hn : mul finv ordR P ≠ .inf) : Calls Tryz.prog 5 #[.int .u64 ((n : Nat) : Int), RV k] w (Ret (.bool true) w) := by
  have hp0 := Heap.start w
  go_enter Tryz.func5, Tryz.ntmps5
  refine wp_seq_k (fun K1 k1 => ?_)
  refine gsD [.alloc (RC k), .det (.bool false)] [0, 1] [0, 0] (fun L d => [.int .u64 ((n : Nat) : Int), d 1, undef, L.p 0, d 4] ++ U 51) (fun L => [(L.b 0, RC k)]) hp0 ⟨
    oB, oA,
    trivial⟩ (fun L0 _ w1 hp1 => ?_)
  refine k1 _ _ ?_
  refine wp_seq_k (fun K2 k2 => ?_)
  refine wp_seq_k (fun K3 k3 => ?_)
  refine gsD [.det (.bool true), .det (.bool false)] [0, 1] [0, 1] (fun L d => [.int .u64 ((n : Nat) : Int), d 1, undef, L0.p 0, d 4, undef, undef, d 7, .bool false] ++ U 47) (fun L => [(L0.b 0, RC k)]) hp1 ⟨
    oC K.stay hg (begun11 K R), oN,
    trivial⟩ (fun L1 _ w2 hp2 => ?_)
  refine k3 _ _ ?_
  refine wp_cond_false (by kernel_rfl) ?_
  refine skips ?_
  refine k2 _ _ ?_
  refine wp_seq_k (fun K4 k4 => ?_)
  refine gsD [.det (.int .u64 ((n : Nat) : Int)), .det (.tuple #[GV (gp P), .bool true]), .det (.tuple #[GV (gp P), .bool true]), .det (GV (gp P)), .det (.bool true), .alloc (GC ⟨0, 0, false⟩), .store (.new 5) 0 (GC (gp P)) (GC (gp P)), .det (.bool true)] [0, 1, 2, 3, 4, 5, 6, 7] [0, 1, 3, 7, 7, 0, 47, 127] (fun L d => D d 0 3 ++ ([L0.p 0, d 4, L.p 5, .bool true] ++ D d 7 49)) (fun L => [(L0.b 0, RC k), (L.b 5, GC (gp P))]) hp2 ⟨
    oM, oR hO, oM, oX, oX, oZ rG, oT rG, oA,
    trivial⟩ (fun L2 _ w3 hp3 => ?_)
  refine k4 _ _ ?_
  refine wp_seq_k (fun K5 k5 => ?_)
  refine wp_seq_k (fun K6 k6 => ?_)
  refine gsD [.det (.bool true), .det (.bool false), .det (.bool false), .det (RV k), .det (.bool true), .det (.bool false), .det (.bool false), .det (.bool false), .det (GV (gp P)), .det (.bool false), .det (.bool false)] [0, 1, 2, 3, 4, 5, 6, 7, 8, 9, 10] [0, 1, 3, 7, 15, 31, 63, 127, 255, 511, 1023] (fun L d => D d 0 3 ++ ([L0.p 0, d 4, L2.p 5] ++ (D d 6 18 ++ ([.bool false] ++ D d 25 31)))) (fun L => [(L0.b 0, RC k), (L2.b 5, GC (gp P))]) hp3 ⟨
    oM, oN, oM, oL 0 0 rR, oH (v := .bool true) (vs := #[RV k]) (fun w _ _ => by have h := mayR hk6 w; rw [decide_eq_true hk] at h; exact h), oN, oP, oM, oL 1 0 rG,
    oH (v := .bool false) (vs := #[GV (gp P)]) (fun w _ _ => by have h := ref5In1 R P w hP; rw [hI] at h; exact h), oP,
    trivial⟩ (fun L3 _ w4 hp4 => ?_)
  refine k6 _ _ ?_
  refine wp_cond_false (by kernel_rfl) ?_
  refine skips ?_
  refine k5 _ _ ?_
  refine wp_seq_k (fun K7 k7 => ?_)
  refine drD [.det (GV (gp P)), .det (T2.GV (T2.gp g2)), .det (V12 1), .det (V12 1), .det (.bool true), .det (.bool true), .det (GV (gp P)), .det (RV k), .det (T2.GV (T2.gp (mul F2.inv k g2))), .det (ZV ⟨(gp P), (T2.gp (mul F2.inv k g2))⟩), .any (isRow1 (ZC ⟨(gp P), (T2.gp (mul F2.inv k g2))⟩)), .det (.bool false), .det (.bool true), .det (.bool true), .det (.bool true), .det (GV (gp P)), .det (RV k), .det (T2.GV (T2.gp (mul F2.inv k g2))), .det (ZV ⟨(gp P), (T2.gp (mul F2.inv k g2))⟩), .det (GV (gp P)), .det (GV (gp (neg P))), .det (RV k), .det (T2.GV (T2.gp (mul F2.inv k g2))), .det (ZV ⟨(gp (neg P)), (T2.gp (mul F2.inv k g2))⟩), .any (isRow2Z ⟨(gp P), (T2.gp (mul F2.inv k g2))⟩ ⟨(gp (neg P)), (T2.gp (mul F2.inv k g2))⟩), .det (.bool false), .det (.bool true), .det (.bool true), .det (.bool true), .det (.bool true), .det (.bool true), .det (.bool true)] [0, 1, 2, 3, 4, 5, 6, 7, 8, 9, 10, 11, 12, 13, 14, 15, 16, 17, 18, 19, 20, 21, 22, 23, 24, 25, 26, 27, 28, 29, 30, 31] [0, 0, 3, 7, 15, 31, 63, 63, 191, 511, 1023, 2047, 4095, 8191, 16383, 32767, 32767, 98303, 262143, 32767, 753663, 32767, 3899391, 8093695, 16777215, 33554431, 67108863, 134217727, 268435455, 536870911, 1073741823, 2147483647] (fun L d => D d 0 4 ++ ([.bool true] ++ D d 5 51)) (fun L => [(L0.b 0, RC k), (L2.b 5, GC (gp P))]) hp4 ⟨
    oL 1 0 rG, oR (by rw [hg2]; exact T2.ref5Gen1 R), oC K.stay hg (tellO K hg2 hP hn), oR (ref5One12 R), oE (a := 1) (b := 1) q12 (yes rfl), oM, oL 1 0 rG, oL 0 0 rR,
    oH (v := T2.GV (T2.gp (mul F2.inv k g2))) (vs := #[RV k]) (fun w _ _ => law11g2 R k g2 w hk6 hg2 h2), oD (buildZ01 (gp P) (T2.gp (mul F2.inv k g2))), oS2 Tryz.underlying24 rZ,
    oCS (fun L => #[L.v 10]) (fun L w hs => checkO1 K hP hn (K.stay hg hs.bel) (hs.any 10 _ rfl rfl)), oN, oP, oM, oL 1 0 rG, oL 0 0 rR, oH (v := T2.GV (T2.gp (mul F2.inv k g2))) (vs := #[RV k]) (fun w _ _ => law11g2 R k g2 w hk6 hg2 h2),
    oD (buildZ01 (gp P) (T2.gp (mul F2.inv k g2))), oL 1 0 rG, oR (ref5Minus1 R P), oL 0 0 rR, oH (v := T2.GV (T2.gp (mul F2.inv k g2))) (vs := #[RV k]) (fun w _ _ => law11g2 R k g2 w hk6 hg2 h2),
    oD (buildZ01 (gp (neg P)) (T2.gp (mul F2.inv k g2))), oS2Z, oCS (fun L => #[L.v 24]) (fun L w hs => checkO2 K hP hn (K.stay hg hs.bel) (hs.any 24 _ rfl rfl)),
    oN, oP, oM, oC K.stay hg (checkN K), oP, oA,
    trivial⟩ (fun L4 _ w5 hp5 => ?_)
  refine k7 _ _ ?_
  refine wp_ret ?_
  refine bodyPost_ret (v := .bool true) ?_ rfl ?_
  · exact res_t rfl (by kernel_rfl) _
  · exact ⟨rfl, hp5.bel⟩
theorem pairingOut_walk {G : World → Prop} (K : PairK G) (R : RefK) (n k : Nat) (w : World) (hg : G w) (hn : n < 18446744073709551616) (hk6 : k < 2 ^ 256) : Calls Tryz.prog 5 #[.int .u64 ((n : Nat) : Int), RV k] w (Ret (.bool true) w) := by
  rcases refOut_or R n hn with ⟨P, hP, hO⟩ | hO
  · by_cases hk : k < ordR
    · by_cases hI : mul finv ordR P = .inf
      · exact pairOut2 K R n k P ⟨0, 0, false⟩ gen1 gen2 w hg hk6 hk rfl rfl gen1_on gen2_on hO hP (decide_eq_true hI)
      · exact pairOut3 K R n k P ⟨0, 0, false⟩ gen1 gen2 w hg hk6 hk rfl rfl gen1_on gen2_on hO hP (decide_eq_false hI) hI
    · exact pairOut1 K R n k P ⟨0, 0, false⟩ gen1 gen2 w hg hk6 hk rfl rfl gen1_on gen2_on hO
  · exact pairOut0 K R n k .inf _ gen1 gen2 w hg hk6 rfl rfl gen1_on gen2_on hO
end Go.Proofs.YthnfgmhehfombaaGreatDoor.fpn
