/- UB UC. -/
import Derived.Test.YthnfgmhehfombaaGreatDoorNE
import Derived.Test.YthnfgmhehfombaaGreatDoorGM
import Derived.Test.YthnfgmhehfombaaGreatDoorGS
import Derived.Test.YthnfgmhehfombaaGreatDoorGG
/- Has package pairing begun? Law 11's own points. -/
namespace Go.Proofs.YthnfgmhehfombaaGreatDoor.fpn
open Go.RowKit Pl EC
set_option linter.unusedVariables false
set_option linter.unusedSimpArgs false
set_option maxRecDepth 4000

theorem zp_one : zp (1, 1) = ⟨gp gen1, T2.gp gen2⟩ := by unfold zp; rw [EC.mul_one, EC.mul_one]
theorem gen1_pred (m : Nat) (hm : m + 1 = ordR) : add finv (mul finv m gen1) gen1 = .inf := by
  have h := gen1_order
  rw [← hm] at h
  exact h
theorem neg_pred (m : Nat) (hm : m + 1 = ordR) : mul finv m gen1 = neg gen1 :=
  EC.neg_uniq crv1 gen1_on (mul_on crv1 gen1_on m) ((EC.add_comm crv1 gen1_on (mul_on crv1 gen1_on m)).trans (gen1_pred m hm))
theorem neg_gen1 : mul finv (ordR - 1) gen1 = neg gen1 := neg_pred _ (by decide +kernel)
theorem zp_neg : zp (ordR - 1, 1) = ⟨gp (neg gen1), T2.gp gen2⟩ := by unfold zp; rw [neg_gen1, EC.mul_one]
theorem checkB {G : World → Prop} (K : PairK G) {g1 : Pt F} {g2 : Pt F2} (hg1 : g1 = gen1) (hg2 : g2 = gen2) {v : Value} {w : World} (hg : G w) (h : isRow2Z ⟨gp g1, T2.gp g2⟩ ⟨gp (neg g1), T2.gp g2⟩ v w) : Calls Tryz.prog 15 #[v] w (Ret (.bool true) w) := by
  obtain ⟨p, rfl, h'⟩ := AtZ.two h
  have := K.check [(1, 1), (ordR - 1, 1)] p 2 2 w hg (by decide) rfl (Nat.le_refl _) (by decide) (by show AtZ w p [zp (1, 1), zp (ordR - 1, 1)]; rw [zp_one, zp_neg, ← hg1, ← hg2]; exact h')
  rwa [show decide (zsum [(1, 1), (ordR - 1, 1)] % ordR = 0) = true by decide +kernel] at this
theorem checkC {G : World → Prop} (K : PairK G) {g1 : Pt F} {g2 : Pt F2} (hg1 : g1 = gen1) (hg2 : g2 = gen2) {v : Value} {w : World} (hg : G w) (h : isRow1 (ZC ⟨gp g1, T2.gp g2⟩) v w) : Calls Tryz.prog 15 #[v] w (Ret (.bool false) w) := by
  obtain ⟨p, rfl, h'⟩ := AtZ.one h
  have := K.check [(1, 1)] p 1 1 w hg (by decide) rfl (Nat.le_refl _) (by decide) (by show AtZ w p [zp (1, 1)]; rw [zp_one, ← hg1, ← hg2]; exact h')
  rwa [show decide (zsum [(1, 1)] % ordR = 0) = false by decide +kernel] at this
set_option maxHeartbeats 4000000 in
theorem begun11a {G : World → Prop} (K : PairK G) (R : RefK) (g1 : Pt F) (g2 : Pt F2) (w : World) (hg : G w) (hg1 : g1 = gen1) (hg2 : g2 = gen2) : Calls Tryz.prog 7 #[] w (Ret (.bool true) w) := by
  have hp0 := Heap.start w
  go_enter Tryz.func7, Tryz.ntmps7
  refine wp_seq_k (fun K1 k1 => ?_)
  refine gsD [.det (.bool false)] [0] [0] (fun L d => D d 0 22) (fun L => []) hp0 ⟨
    oA,
    trivial⟩ (fun L0 _ w1 hp1 => ?_)
  refine k1 _ _ ?_
  refine wp_seq_k (fun K2 k2 => ?_)
  refine gsD [.det (GV (gp g1)), .det (T2.GV (T2.gp g2)), .alloc (GC ⟨0, 0, false⟩), .alloc (T2.GC ⟨0, 0, false⟩), .store (.new 2) 0 (GC (gp g1)) (GC (gp g1)), .store (.new 3) 0 (T2.GC (T2.gp g2)) (T2.GC (T2.gp g2))] [0, 1, 2, 3, 4, 5] [0, 1, 0, 0, 15, 31] (fun L d => [d 0, L.p 2, L.p 3] ++ D d 3 19) (fun L => [(L.b 2, GC (gp g1)), (L.b 3, T2.GC (T2.gp g2))]) hp1 ⟨
    oR (by rw [hg1]; exact ref5Gen1 R), oR (by rw [hg2]; exact T2.ref5Gen1 R), oZ rG, oZ T2.rG, oT rG, oT T2.rG,
    trivial⟩ (fun L1 _ w2 hp2 => ?_)
  refine k2 _ _ ?_
  refine wp_seq_k (fun K3 k3 => ?_)
  refine drD [.det (GV (gp g1)), .det (T2.GV (T2.gp g2)), .det (ZV ⟨(gp g1), (T2.gp g2)⟩), .det (GV (gp g1)), .det (GV (gp (neg g1))), .det (T2.GV (T2.gp g2)), .det (ZV ⟨(gp (neg g1)), (T2.gp g2)⟩), .any (isRow2Z ⟨(gp g1), (T2.gp g2)⟩ ⟨(gp (neg g1)), (T2.gp g2)⟩), .det (.bool true), .det (.bool true), .det (GV (gp g1)), .det (T2.GV (T2.gp g2)), .det (ZV ⟨(gp g1), (T2.gp g2)⟩), .any (isRow1 (ZC ⟨(gp g1), (T2.gp g2)⟩)), .det (.bool false), .det (.bool true), .det (.bool true), .det (.bool true)] [0, 1, 2, 3, 4, 5, 6, 7, 8, 9, 10, 11, 12, 13, 14, 15, 16, 17] [0, 0, 3, 0, 8, 0, 56, 127, 255, 511, 1023, 1023, 4095, 8191, 16383, 32767, 65535, 131071] (fun L d => [.bool true] ++ D d 1 21) (fun L => [(L1.b 2, GC (gp g1)), (L1.b 3, T2.GC (T2.gp g2))]) hp2 ⟨
    oL 0 0 rG, oL 1 0 T2.rG, oD (buildZ01 (gp g1) (T2.gp g2)), oL 0 0 rG, oR (ref5Minus1 R g1), oL 1 0 T2.rG, oD (buildZ01 (gp (neg g1)) (T2.gp g2)), oS2Z, oCS (fun L => #[L.v 7]) (fun L w hs => checkB K hg1 hg2 (K.stay hg hs.bel) (hs.any 7 _ rfl rfl)),
    oM, oL 0 0 rG, oL 1 0 T2.rG, oD (buildZ01 (gp g1) (T2.gp g2)), oS2 Tryz.underlying24 rZ, oCS (fun L => #[L.v 13]) (fun L w hs => checkC K hg1 hg2 (K.stay hg hs.bel) (hs.any 13 _ rfl rfl)),
    oN, oP, oA,
    trivial⟩ (fun L2 _ w3 hp3 => ?_)
  refine k3 _ _ ?_
  refine wp_ret ?_
  refine bodyPost_ret (v := .bool true) ?_ rfl ?_
  · exact res_t rfl (by kernel_rfl) _
  · exact ⟨rfl, hp3.bel⟩
theorem begun11 {G : World → Prop} (K : PairK G) (R : RefK) (w : World) (hg : G w) : Calls Tryz.prog 7 #[] w (Ret (.bool true) w) := begun11a K R gen1 gen2 w hg rfl rfl
set_option maxHeartbeats 4000000 in
theorem law11g1 (R : RefK) (k : Nat) (g1 : Pt F) (w : World) (hk6 : k < 2 ^ 256) (hg1 : g1 = gen1) (h1 : On (4 : F) g1) : Calls Tryz.prog 9 #[RV k] w (Ret (GV (gp (mul finv k g1))) w) := by
  have hp0 := Heap.start w
  go_enter Tryz.func9, Tryz.ntmps9
  refine wp_seq_k (fun K1 k1 => ?_)
  refine gsD [.alloc (RC k), .alloc (GC ⟨0, 0, false⟩)] [0, 1] [0, 0] (fun L d => [d 0, L.p 0, L.p 1] ++ D d 3 3) (fun L => [(L.b 0, RC k), (L.b 1, GC ⟨0, 0, false⟩)]) hp0 ⟨
    oB, oZ rG,
    trivial⟩ (fun L0 _ w1 hp1 => ?_)
  refine k1 _ _ ?_
  refine wp_seq_k (fun K2 k2 => ?_)
  refine drD [.det (GV (gp g1)), .det (RV k), .det (GV (gp (mul finv k g1))), .store (.base 1) 0 (GC (gp (mul finv k g1))) (GC (gp (mul finv k g1)))] [0, 1, 2, 3] [0, 0, 3, 7] (fun L d => D d 0 2 ++ ([L0.p 1] ++ D d 3 3)) (fun L => [(L0.b 0, RC k), (L0.b 1, GC (gp (mul finv k g1)))]) hp1 ⟨
    oR (by rw [hg1]; exact ref5Gen1 R), oL 0 0 rR, oH (v := GV (gp (mul finv k g1))) (vs := #[GV (gp g1), RV k]) (fun w _ _ => ref5Times1 R g1 k w h1 hk6), oT rG,
    trivial⟩ (fun L1 _ w2 hp2 => ?_)
  refine k2 _ _ ?_
  refine wp_ret ?_
  refine bodyPost_ret (v := GV (gp (mul finv k g1))) ?_ rfl ?_
  · exact rc rG rfl (by kernel_rfl) (hp2.bound 1 rfl).2
  · exact ⟨rfl, hp2.bel⟩
set_option maxHeartbeats 4000000 in
theorem law11g2 (R : RefK) (k : Nat) (g2 : Pt F2) (w : World) (hk6 : k < 2 ^ 256) (hg2 : g2 = gen2) (h2 : On b2 g2) : Calls Tryz.prog 10 #[RV k] w (Ret (T2.GV (T2.gp (mul F2.inv k g2))) w) := by
  have hp0 := Heap.start w
  go_enter Tryz.func10, Tryz.ntmps10
  refine wp_seq_k (fun K1 k1 => ?_)
  refine gsD [.alloc (RC k), .alloc (T2.GC ⟨0, 0, false⟩)] [0, 1] [0, 0] (fun L d => [d 0, L.p 0, L.p 1] ++ D d 3 3) (fun L => [(L.b 0, RC k), (L.b 1, T2.GC ⟨0, 0, false⟩)]) hp0 ⟨
    oB, oZ T2.rG,
    trivial⟩ (fun L0 _ w1 hp1 => ?_)
  refine k1 _ _ ?_
  refine wp_seq_k (fun K2 k2 => ?_)
  refine drD [.det (T2.GV (T2.gp g2)), .det (RV k), .det (T2.GV (T2.gp (mul F2.inv k g2))), .store (.base 1) 0 (T2.GC (T2.gp (mul F2.inv k g2))) (T2.GC (T2.gp (mul F2.inv k g2)))] [0, 1, 2, 3] [0, 0, 3, 7] (fun L d => D d 0 2 ++ ([L0.p 1] ++ D d 3 3)) (fun L => [(L0.b 0, RC k), (L0.b 1, T2.GC (T2.gp (mul F2.inv k g2)))]) hp1 ⟨
    oR (by rw [hg2]; exact T2.ref5Gen1 R), oL 0 0 rR, oH (v := T2.GV (T2.gp (mul F2.inv k g2))) (vs := #[T2.GV (T2.gp g2), RV k]) (fun w _ _ => T2.ref5Times1 R g2 k w h2 hk6),
    oT T2.rG,
    trivial⟩ (fun L1 _ w2 hp2 => ?_)
  refine k2 _ _ ?_
  refine wp_ret ?_
  refine bodyPost_ret (v := T2.GV (T2.gp (mul F2.inv k g2))) ?_ rfl ?_
  · exact rc T2.rG rfl (by kernel_rfl) (hp2.bound 1 rfl).2
  · exact ⟨rfl, hp2.bel⟩
end Go.Proofs.YthnfgmhehfombaaGreatDoor.fpn

/- PairingSums walked. -/
namespace Go.Proofs.YthnfgmhehfombaaGreatDoor.fpn
open Go.RowKit Pl EC
set_option linter.unusedVariables false
set_option linter.unusedSimpArgs false
set_option maxRecDepth 4000

theorem tellS {G : World → Prop} (K : PairK G) {g1 : Pt F} {g2 : Pt F2} (hg1 : g1 = gen1) (hg2 : g2 = gen2) (a b : Nat) {v : F12} (hv : npw F12.gt (a * b) = v) (w : World) (hg : G w) : Calls Tryz.prog 16 #[GV (gp (mul finv a g1)), T2.GV (T2.gp (mul F2.inv b g2))] w (Ret (V12 v) w) := by
  rw [hg1, hg2, ← hv]; exact K.tell a b w hg
theorem plus1S {g1 : Pt F} (R : RefK) (h1 : On (4 : F) g1) (a b : Nat) (w : World) : Calls Tryz.prog 25 #[GV (gp (mul finv a g1)), GV (gp (mul finv b g1))] w (Ret (GV (gp (mul finv (a + b) g1))) w) := by
  rw [EC.mul_add crv1 h1]; exact ref5Plus1 R _ _ w (mul_on crv1 h1 a) (mul_on crv1 h1 b)
theorem plus2S {g2 : Pt F2} (R : RefK) (h2 : On b2 g2) (a b : Nat) (w : World) : Calls Tryz.prog 27 #[T2.GV (T2.gp (mul F2.inv a g2)), T2.GV (T2.gp (mul F2.inv b g2))] w (Ret (T2.GV (T2.gp (mul F2.inv (a + b) g2))) w) := by
  rw [EC.mul_add crv2 h2]; exact T2.ref5Plus1 R _ _ w (mul_on crv2 h2 a) (mul_on crv2 h2 b)
set_option maxHeartbeats 4000000 in
theorem pairSums0 {G : World → Prop} (K : PairK G) (R : RefK) (a b c : Nat) (g1 : Pt F) (g2 : Pt F2) (x y z : F12) (s : Bool) (w : World) (hg : G w) (ha6 : a < 2 ^ 256) (hb6 : b < 2 ^ 256) (hc6 : c < 2 ^ 256) (ha : ¬ a < ordR) (hg1 : g1 = gen1) (hg2 : g2 = gen2) (h1 : On (4 : F) g1) (h2 : On b2 g2) : Calls Tryz.prog 6 #[RV a, RV b, RV c, .bool s] w (Ret (.bool true) w) := by
  have hp0 := Heap.start w
  go_enter Tryz.func6, Tryz.ntmps6
  refine wp_seq_k (fun K1 k1 => ?_)
  refine gsD [.alloc (RC a), .alloc (RC b), .alloc (RC c), .det (.bool false)] [0, 1, 2, 3] [0, 0, 0, 0] (fun L d => D d 0 4 ++ ([L.p 0] ++ D d 5 64)) (fun L => [(L.b 0, RC a), (L.b 1, RC b), (L.b 2, RC c)]) hp0 ⟨
    oB, oB, oB, oA,
    trivial⟩ (fun L0 _ w1 hp1 => ?_)
  refine k1 _ _ ?_
  refine wp_seq_k (fun K2 k2 => ?_)
  refine wp_seq_k (fun K3 k3 => ?_)
  refine gsD [.det (.bool true), .det (.bool false)] [0, 1] [0, 1] (fun L d => D d 0 4 ++ ([L0.p 0] ++ (D d 5 11 ++ ([.bool false] ++ D d 17 52)))) (fun L => [(L0.b 0, RC a), (L0.b 1, RC b), (L0.b 2, RC c)]) hp1 ⟨
    oC K.stay hg (begun11 K R), oN,
    trivial⟩ (fun L1 _ w2 hp2 => ?_)
  refine k3 _ _ ?_
  refine wp_cond_false (by kernel_rfl) ?_
  refine skips ?_
  refine k2 _ _ ?_
  refine wp_seq_k (fun K4 k4 => ?_)
  refine wp_seq_k (fun K5 k5 => ?_)
  refine gsD [.det (RV a), .det (.bool false), .det (.bool true), .det (.bool true), .det undef, .det undef, .det undef, .det (.bool true), .det (.bool true), .det undef, .det undef, .det undef, .det (.bool true)] [0, 1, 2, 3, 4, 5, 6, 7, 8, 9, 10, 11, 12] [0, 1, 3, 7, 15, 31, 63, 127, 255, 511, 1023, 2047, 4095] (fun L d => D d 0 29 ++ ([.bool true] ++ D d 30 39)) (fun L => [(L0.b 0, RC a), (L0.b 1, RC b), (L0.b 2, RC c)]) hp2 ⟨
    oL 0 0 rR, oH (v := .bool false) (vs := #[RV a]) (fun w _ _ => by have h := mayR ha6 w; rw [decide_eq_false ha] at h; exact h), oN, oM, oS, oS, oS, oP, oM, oS,
    oS, oS, oP,
    trivial⟩ (fun L2 _ w3 hp3 => ?_)
  refine k5 _ _ ?_
  refine wp_cond_true (by kernel_rfl) ?_
  refine wp_seq_k (fun K6 k6 => ?_)
  refine gsD [.det (.bool true)] [0] [0] (fun L d => D d 0 8 ++ ([.bool true] ++ D d 9 60)) (fun L => [(L0.b 0, RC a), (L0.b 1, RC b), (L0.b 2, RC c)]) hp3 ⟨
    oA,
    trivial⟩ (fun L3 _ w4 hp4 => ?_)
  refine k6 _ _ ?_
  refine wp_ret ?_
  refine bodyPost_ret (v := .bool true) ?_ rfl ?_
  · exact res_t rfl (by kernel_rfl) _
  · exact ⟨rfl, hp4.bel⟩
set_option maxHeartbeats 4000000 in
theorem pairSums1 {G : World → Prop} (K : PairK G) (R : RefK) (a b c : Nat) (g1 : Pt F) (g2 : Pt F2) (x y z : F12) (s : Bool) (w : World) (hg : G w) (ha6 : a < 2 ^ 256) (hb6 : b < 2 ^ 256) (hc6 : c < 2 ^ 256) (ha : a < ordR) (hb : ¬ b < ordR) (hg1 : g1 = gen1) (hg2 : g2 = gen2) (h1 : On (4 : F) g1) (h2 : On b2 g2) : Calls Tryz.prog 6 #[RV a, RV b, RV c, .bool s] w (Ret (.bool true) w) := by
  have hp0 := Heap.start w
  go_enter Tryz.func6, Tryz.ntmps6
  refine wp_seq_k (fun K1 k1 => ?_)
  refine gsD [.alloc (RC a), .alloc (RC b), .alloc (RC c), .det (.bool false)] [0, 1, 2, 3] [0, 0, 0, 0] (fun L d => D d 0 4 ++ ([L.p 0, L.p 1] ++ D d 6 63)) (fun L => [(L.b 0, RC a), (L.b 1, RC b), (L.b 2, RC c)]) hp0 ⟨
    oB, oB, oB, oA,
    trivial⟩ (fun L0 _ w1 hp1 => ?_)
  refine k1 _ _ ?_
  refine wp_seq_k (fun K2 k2 => ?_)
  refine wp_seq_k (fun K3 k3 => ?_)
  refine gsD [.det (.bool true), .det (.bool false)] [0, 1] [0, 1] (fun L d => D d 0 4 ++ ([L0.p 0, L0.p 1] ++ (D d 6 10 ++ ([.bool false] ++ D d 17 52)))) (fun L => [(L0.b 0, RC a), (L0.b 1, RC b), (L0.b 2, RC c)]) hp1 ⟨
    oC K.stay hg (begun11 K R), oN,
    trivial⟩ (fun L1 _ w2 hp2 => ?_)
  refine k3 _ _ ?_
  refine wp_cond_false (by kernel_rfl) ?_
  refine skips ?_
  refine k2 _ _ ?_
  refine wp_seq_k (fun K4 k4 => ?_)
  refine wp_seq_k (fun K5 k5 => ?_)
  refine gsD [.det (RV a), .det (.bool true), .det (.bool false), .det (.bool false), .det (RV b), .det (.bool false), .det (.bool true), .det (.bool true), .det (.bool true), .det undef, .det undef, .det undef, .det (.bool true)] [0, 1, 2, 3, 4, 5, 6, 7, 8, 9, 10, 11, 12] [0, 1, 3, 7, 15, 31, 63, 127, 255, 511, 1023, 2047, 4095] (fun L d => D d 0 29 ++ ([.bool true] ++ D d 30 39)) (fun L => [(L0.b 0, RC a), (L0.b 1, RC b), (L0.b 2, RC c)]) hp2 ⟨
    oL 0 0 rR, oH (v := .bool true) (vs := #[RV a]) (fun w _ _ => by have h := mayR ha6 w; rw [decide_eq_true ha] at h; exact h), oN, oM, oL 1 0 rR, oH (v := .bool false) (vs := #[RV b]) (fun w _ _ => by have h := mayR hb6 w; rw [decide_eq_false hb] at h; exact h),
    oN, oP, oM, oS, oS, oS, oP,
    trivial⟩ (fun L2 _ w3 hp3 => ?_)
  refine k5 _ _ ?_
  refine wp_cond_true (by kernel_rfl) ?_
  refine wp_seq_k (fun K6 k6 => ?_)
  refine gsD [.det (.bool true)] [0] [0] (fun L d => D d 0 8 ++ ([.bool true] ++ D d 9 60)) (fun L => [(L0.b 0, RC a), (L0.b 1, RC b), (L0.b 2, RC c)]) hp3 ⟨
    oA,
    trivial⟩ (fun L3 _ w4 hp4 => ?_)
  refine k6 _ _ ?_
  refine wp_ret ?_
  refine bodyPost_ret (v := .bool true) ?_ rfl ?_
  · exact res_t rfl (by kernel_rfl) _
  · exact ⟨rfl, hp4.bel⟩
set_option maxHeartbeats 4000000 in
theorem pairSums2 {G : World → Prop} (K : PairK G) (R : RefK) (a b c : Nat) (g1 : Pt F) (g2 : Pt F2) (x y z : F12) (s : Bool) (w : World) (hg : G w) (ha6 : a < 2 ^ 256) (hb6 : b < 2 ^ 256) (hc6 : c < 2 ^ 256) (ha : a < ordR) (hb : b < ordR) (hc : ¬ c < ordR) (hg1 : g1 = gen1) (hg2 : g2 = gen2) (h1 : On (4 : F) g1) (h2 : On b2 g2) : Calls Tryz.prog 6 #[RV a, RV b, RV c, .bool s] w (Ret (.bool true) w) := by
  have hp0 := Heap.start w
  go_enter Tryz.func6, Tryz.ntmps6
  refine wp_seq_k (fun K1 k1 => ?_)
  refine gsD [.alloc (RC a), .alloc (RC b), .alloc (RC c), .det (.bool false)] [0, 1, 2, 3] [0, 0, 0, 0] (fun L d => D d 0 4 ++ ([L.p 0, L.p 1, L.p 2] ++ D d 7 62)) (fun L => [(L.b 0, RC a), (L.b 1, RC b), (L.b 2, RC c)]) hp0 ⟨
    oB, oB, oB, oA,
    trivial⟩ (fun L0 _ w1 hp1 => ?_)
  refine k1 _ _ ?_
  refine wp_seq_k (fun K2 k2 => ?_)
  refine wp_seq_k (fun K3 k3 => ?_)
  refine gsD [.det (.bool true), .det (.bool false)] [0, 1] [0, 1] (fun L d => D d 0 4 ++ ([L0.p 0, L0.p 1, L0.p 2] ++ (D d 7 9 ++ ([.bool false] ++ D d 17 52)))) (fun L => [(L0.b 0, RC a), (L0.b 1, RC b), (L0.b 2, RC c)]) hp1 ⟨
    oC K.stay hg (begun11 K R), oN,
    trivial⟩ (fun L1 _ w2 hp2 => ?_)
  refine k3 _ _ ?_
  refine wp_cond_false (by kernel_rfl) ?_
  refine skips ?_
  refine k2 _ _ ?_
  refine wp_seq_k (fun K4 k4 => ?_)
  refine wp_seq_k (fun K5 k5 => ?_)
  refine gsD [.det (RV a), .det (.bool true), .det (.bool false), .det (.bool false), .det (RV b), .det (.bool true), .det (.bool false), .det (.bool false), .det (.bool false), .det (RV c), .det (.bool false), .det (.bool true), .det (.bool true)] [0, 1, 2, 3, 4, 5, 6, 7, 8, 9, 10, 11, 12] [0, 1, 3, 7, 15, 31, 63, 127, 255, 511, 1023, 2047, 4095] (fun L d => D d 0 29 ++ ([.bool true] ++ D d 30 39)) (fun L => [(L0.b 0, RC a), (L0.b 1, RC b), (L0.b 2, RC c)]) hp2 ⟨
    oL 0 0 rR, oH (v := .bool true) (vs := #[RV a]) (fun w _ _ => by have h := mayR ha6 w; rw [decide_eq_true ha] at h; exact h), oN, oM, oL 1 0 rR, oH (v := .bool true) (vs := #[RV b]) (fun w _ _ => by have h := mayR hb6 w; rw [decide_eq_true hb] at h; exact h),
    oN, oP, oM, oL 2 0 rR, oH (v := .bool false) (vs := #[RV c]) (fun w _ _ => by have h := mayR hc6 w; rw [decide_eq_false hc] at h; exact h), oN, oP,
    trivial⟩ (fun L2 _ w3 hp3 => ?_)
  refine k5 _ _ ?_
  refine wp_cond_true (by kernel_rfl) ?_
  refine wp_seq_k (fun K6 k6 => ?_)
  refine gsD [.det (.bool true)] [0] [0] (fun L d => D d 0 8 ++ ([.bool true] ++ D d 9 60)) (fun L => [(L0.b 0, RC a), (L0.b 1, RC b), (L0.b 2, RC c)]) hp3 ⟨
    oA,
    trivial⟩ (fun L3 _ w4 hp4 => ?_)
  refine k6 _ _ ?_
  refine wp_ret ?_
  refine bodyPost_ret (v := .bool true) ?_ rfl ?_
  · exact res_t rfl (by kernel_rfl) _
  · exact ⟨rfl, hp4.bel⟩
set_option maxHeartbeats 4000000 in
theorem pairSumsT {G : World → Prop} (K : PairK G) (R : RefK) (a b c : Nat) (g1 : Pt F) (g2 : Pt F2) (x y z : F12) (w : World) (hg : G w) (ha6 : a < 2 ^ 256) (hb6 : b < 2 ^ 256) (hc6 : c < 2 ^ 256) (ha : a < ordR) (hb : b < ordR) (hc : c < ordR) (hg1 : g1 = gen1) (hg2 : g2 = gen2) (h1 : On (4 : F) g1) (h2 : On b2 g2) (hx : npw F12.gt (a * c) = x) (hy : npw F12.gt (b * c) = y) (hz : npw F12.gt ((a + b) * c) = z) (hzz : z = x * y) : Calls Tryz.prog 6 #[RV a, RV b, RV c, .bool true] w (Ret (.bool true) w) := by
  have hp0 := Heap.start w
  go_enter Tryz.func6, Tryz.ntmps6
  refine wp_seq_k (fun K1 k1 => ?_)
  refine gsD [.alloc (RC a), .alloc (RC b), .alloc (RC c), .det (.bool false)] [0, 1, 2, 3] [0, 0, 0, 0] (fun L d => D d 0 3 ++ ([.bool true, L.p 0, L.p 1, L.p 2] ++ D d 7 62)) (fun L => [(L.b 0, RC a), (L.b 1, RC b), (L.b 2, RC c)]) hp0 ⟨
    oB, oB, oB, oA,
    trivial⟩ (fun L0 _ w1 hp1 => ?_)
  refine k1 _ _ ?_
  refine wp_seq_k (fun K2 k2 => ?_)
  refine wp_seq_k (fun K3 k3 => ?_)
  refine gsD [.det (.bool true), .det (.bool false)] [0, 1] [0, 1] (fun L d => D d 0 3 ++ ([.bool true, L0.p 0, L0.p 1, L0.p 2] ++ (D d 7 9 ++ ([.bool false] ++ D d 17 52)))) (fun L => [(L0.b 0, RC a), (L0.b 1, RC b), (L0.b 2, RC c)]) hp1 ⟨
    oC K.stay hg (begun11 K R), oN,
    trivial⟩ (fun L1 _ w2 hp2 => ?_)
  refine k3 _ _ ?_
  refine wp_cond_false (by kernel_rfl) ?_
  refine skips ?_
  refine k2 _ _ ?_
  refine wp_seq_k (fun K4 k4 => ?_)
  refine wp_seq_k (fun K5 k5 => ?_)
  refine gsD [.det (RV a), .det (.bool true), .det (.bool false), .det (.bool false), .det (RV b), .det (.bool true), .det (.bool false), .det (.bool false), .det (.bool false), .det (RV c), .det (.bool true), .det (.bool false), .det (.bool false)] [0, 1, 2, 3, 4, 5, 6, 7, 8, 9, 10, 11, 12] [0, 1, 3, 7, 15, 31, 63, 127, 255, 511, 1023, 2047, 4095] (fun L d => D d 0 3 ++ ([.bool true, L0.p 0, L0.p 1, L0.p 2] ++ (D d 7 22 ++ ([.bool false] ++ D d 30 39)))) (fun L => [(L0.b 0, RC a), (L0.b 1, RC b), (L0.b 2, RC c)]) hp2 ⟨
    oL 0 0 rR, oH (v := .bool true) (vs := #[RV a]) (fun w _ _ => by have h := mayR ha6 w; rw [decide_eq_true ha] at h; exact h), oN, oM, oL 1 0 rR, oH (v := .bool true) (vs := #[RV b]) (fun w _ _ => by have h := mayR hb6 w; rw [decide_eq_true hb] at h; exact h),
    oN, oP, oM, oL 2 0 rR, oH (v := .bool true) (vs := #[RV c]) (fun w _ _ => by have h := mayR hc6 w; rw [decide_eq_true hc] at h; exact h), oN, oP,
    trivial⟩ (fun L2 _ w3 hp3 => ?_)
  refine k5 _ _ ?_
  refine wp_cond_false (by kernel_rfl) ?_
  refine skips ?_
  refine k4 _ _ ?_
  refine wp_seq_k (fun K6 k6 => ?_)
  refine wp_seq_k (fun K7 k7 => ?_)
  refine gsD [.det (.bool true)] [0] [0] (fun L d => D d 0 4 ++ ([L0.p 0, L0.p 1, L0.p 2] ++ (D d 7 23 ++ ([.bool true] ++ D d 31 38)))) (fun L => [(L0.b 0, RC a), (L0.b 1, RC b), (L0.b 2, RC c)]) hp3 ⟨
    oM,
    trivial⟩ (fun L3 _ w4 hp4 => ?_)
  refine k7 _ _ ?_
  refine wp_cond_true (by kernel_rfl) ?_
  refine wp_seq_k (fun K8 k8 => ?_)
  refine drD [.det (RV a), .det (GV (gp (mul finv a g1))), .det (RV b), .det (GV (gp (mul finv b g1))), .det (RV c), .det (T2.GV (T2.gp (mul F2.inv c g2))), .alloc (GC ⟨0, 0, false⟩), .alloc (GC ⟨0, 0, false⟩), .alloc (T2.GC ⟨0, 0, false⟩), .store (.new 6) 0 (GC (gp (mul finv a g1))) (GC (gp (mul finv a g1))), .store (.new 7) 0 (GC (gp (mul finv b g1))) (GC (gp (mul finv b g1))), .store (.new 8) 0 (T2.GC (T2.gp (mul F2.inv c g2))) (T2.GC (T2.gp (mul F2.inv c g2)))] [0, 1, 2, 3, 4, 5, 6, 7, 8, 9, 10, 11] [0, 1, 0, 7, 0, 31, 0, 0, 0, 511, 1023, 2047] (fun L d => D d 0 9 ++ ([L.p 6, L.p 7, L.p 8] ++ D d 12 57)) (fun L => [(L0.b 0, RC a), (L0.b 1, RC b), (L0.b 2, RC c), (L.b 6, GC (gp (mul finv a g1))), (L.b 7, GC (gp (mul finv b g1))), (L.b 8, T2.GC (T2.gp (mul F2.inv c g2)))]) hp4 ⟨
    oL 0 0 rR, oH (v := GV (gp (mul finv a g1))) (vs := #[RV a]) (fun w _ _ => law11g1 R a g1 w ha6 hg1 h1), oL 1 0 rR, oH (v := GV (gp (mul finv b g1))) (vs := #[RV b]) (fun w _ _ => law11g1 R b g1 w hb6 hg1 h1),
    oL 2 0 rR, oH (v := T2.GV (T2.gp (mul F2.inv c g2))) (vs := #[RV c]) (fun w _ _ => law11g2 R c g2 w hc6 hg2 h2), oZ rG, oZ rG, oZ T2.rG, oT rG, oT rG, oT T2.rG,
    trivial⟩ (fun L4 _ w5 hp5 => ?_)
  refine k8 _ _ ?_
  refine wp_seq_k (fun K9 k9 => ?_)
  refine drD [.det (GV (gp (mul finv a g1))), .det (GV (gp (mul finv b g1))), .det (GV (gp (mul finv (a + b) g1))), .det (T2.GV (T2.gp (mul F2.inv c g2))), .det (V12 z), .det (GV (gp (mul finv a g1))), .det (T2.GV (T2.gp (mul F2.inv c g2))), .det (V12 x), .det (GV (gp (mul finv b g1))), .det (T2.GV (T2.gp (mul F2.inv c g2))), .det (V12 y), .det (V12 (x * y)), .det (.bool true), .det (.bool true)] [0, 1, 2, 3, 4, 5, 6, 7, 8, 9, 10, 11, 12, 13] [0, 0, 3, 0, 15, 0, 0, 127, 0, 0, 1023, 2047, 4095, 8191] (fun L d => D d 0 8 ++ ([.bool true] ++ D d 9 60)) (fun L => [(L0.b 0, RC a), (L0.b 1, RC b), (L0.b 2, RC c), (L4.b 6, GC (gp (mul finv a g1))), (L4.b 7, GC (gp (mul finv b g1))), (L4.b 8, T2.GC (T2.gp (mul F2.inv c g2)))]) hp5 ⟨
    oL 3 0 rG, oL 4 0 rG, oR (plus1S R h1 a b), oL 5 0 T2.rG, oC K.stay hg (tellS K hg1 hg2 (a + b) c hz), oL 3 0 rG, oL 5 0 T2.rG, oC K.stay hg (tellS K hg1 hg2 a c hx),
    oL 4 0 rG, oL 5 0 T2.rG, oC K.stay hg (tellS K hg1 hg2 b c hy), oR (ref5Mul12 R x y), oE (a := z) (b := (x * y)) q12 (yes hzz), oA,
    trivial⟩ (fun L5 _ w6 hp6 => ?_)
  refine k9 _ _ ?_
  refine wp_ret ?_
  refine bodyPost_ret (v := .bool true) ?_ rfl ?_
  · exact res_t rfl (by kernel_rfl) _
  · exact ⟨rfl, hp6.bel⟩
set_option maxHeartbeats 4000000 in
theorem pairSumsF {G : World → Prop} (K : PairK G) (R : RefK) (a b c : Nat) (g1 : Pt F) (g2 : Pt F2) (x y z : F12) (w : World) (hg : G w) (ha6 : a < 2 ^ 256) (hb6 : b < 2 ^ 256) (hc6 : c < 2 ^ 256) (ha : a < ordR) (hb : b < ordR) (hc : c < ordR) (hg1 : g1 = gen1) (hg2 : g2 = gen2) (h1 : On (4 : F) g1) (h2 : On b2 g2) (hx : npw F12.gt (c * a) = x) (hy : npw F12.gt (c * b) = y) (hz : npw F12.gt (c * (a + b)) = z) (hzz : z = x * y) : Calls Tryz.prog 6 #[RV a, RV b, RV c, .bool false] w (Ret (.bool true) w) := by
  have hp0 := Heap.start w
  go_enter Tryz.func6, Tryz.ntmps6
  refine wp_seq_k (fun K1 k1 => ?_)
  refine gsD [.alloc (RC a), .alloc (RC b), .alloc (RC c), .det (.bool false)] [0, 1, 2, 3] [0, 0, 0, 0] (fun L d => D d 0 3 ++ ([.bool false, L.p 0, L.p 1, L.p 2] ++ D d 7 62)) (fun L => [(L.b 0, RC a), (L.b 1, RC b), (L.b 2, RC c)]) hp0 ⟨
    oB, oB, oB, oA,
    trivial⟩ (fun L0 _ w1 hp1 => ?_)
  refine k1 _ _ ?_
  refine wp_seq_k (fun K2 k2 => ?_)
  refine wp_seq_k (fun K3 k3 => ?_)
  refine gsD [.det (.bool true), .det (.bool false)] [0, 1] [0, 1] (fun L d => D d 0 3 ++ ([.bool false, L0.p 0, L0.p 1, L0.p 2] ++ (D d 7 9 ++ ([.bool false] ++ D d 17 52)))) (fun L => [(L0.b 0, RC a), (L0.b 1, RC b), (L0.b 2, RC c)]) hp1 ⟨
    oC K.stay hg (begun11 K R), oN,
    trivial⟩ (fun L1 _ w2 hp2 => ?_)
  refine k3 _ _ ?_
  refine wp_cond_false (by kernel_rfl) ?_
  refine skips ?_
  refine k2 _ _ ?_
  refine wp_seq_k (fun K4 k4 => ?_)
  refine wp_seq_k (fun K5 k5 => ?_)
  refine gsD [.det (RV a), .det (.bool true), .det (.bool false), .det (.bool false), .det (RV b), .det (.bool true), .det (.bool false), .det (.bool false), .det (.bool false), .det (RV c), .det (.bool true), .det (.bool false), .det (.bool false)] [0, 1, 2, 3, 4, 5, 6, 7, 8, 9, 10, 11, 12] [0, 1, 3, 7, 15, 31, 63, 127, 255, 511, 1023, 2047, 4095] (fun L d => D d 0 3 ++ ([.bool false, L0.p 0, L0.p 1, L0.p 2] ++ (D d 7 22 ++ ([.bool false] ++ D d 30 39)))) (fun L => [(L0.b 0, RC a), (L0.b 1, RC b), (L0.b 2, RC c)]) hp2 ⟨
    oL 0 0 rR, oH (v := .bool true) (vs := #[RV a]) (fun w _ _ => by have h := mayR ha6 w; rw [decide_eq_true ha] at h; exact h), oN, oM, oL 1 0 rR, oH (v := .bool true) (vs := #[RV b]) (fun w _ _ => by have h := mayR hb6 w; rw [decide_eq_true hb] at h; exact h),
    oN, oP, oM, oL 2 0 rR, oH (v := .bool true) (vs := #[RV c]) (fun w _ _ => by have h := mayR hc6 w; rw [decide_eq_true hc] at h; exact h), oN, oP,
    trivial⟩ (fun L2 _ w3 hp3 => ?_)
  refine k5 _ _ ?_
  refine wp_cond_false (by kernel_rfl) ?_
  refine skips ?_
  refine k4 _ _ ?_
  refine wp_seq_k (fun K6 k6 => ?_)
  refine wp_seq_k (fun K7 k7 => ?_)
  refine gsD [.det (.bool false)] [0] [0] (fun L d => D d 0 4 ++ ([L0.p 0, L0.p 1, L0.p 2] ++ (D d 7 23 ++ ([.bool false] ++ D d 31 38)))) (fun L => [(L0.b 0, RC a), (L0.b 1, RC b), (L0.b 2, RC c)]) hp3 ⟨
    oM,
    trivial⟩ (fun L3 _ w4 hp4 => ?_)
  refine k7 _ _ ?_
  refine wp_cond_false (by kernel_rfl) ?_
  refine skips ?_
  refine k6 _ _ ?_
  refine wp_seq_k (fun K8 k8 => ?_)
  refine drD [.det (RV a), .det (T2.GV (T2.gp (mul F2.inv a g2))), .det (RV b), .det (T2.GV (T2.gp (mul F2.inv b g2))), .det (RV c), .det (GV (gp (mul finv c g1))), .alloc (T2.GC ⟨0, 0, false⟩), .alloc (T2.GC ⟨0, 0, false⟩), .alloc (GC ⟨0, 0, false⟩), .store (.new 6) 0 (T2.GC (T2.gp (mul F2.inv a g2))) (T2.GC (T2.gp (mul F2.inv a g2))), .store (.new 7) 0 (T2.GC (T2.gp (mul F2.inv b g2))) (T2.GC (T2.gp (mul F2.inv b g2))), .store (.new 8) 0 (GC (gp (mul finv c g1))) (GC (gp (mul finv c g1)))] [0, 1, 2, 3, 4, 5, 6, 7, 8, 9, 10, 11] [0, 1, 0, 7, 0, 31, 0, 0, 0, 511, 1023, 2047] (fun L d => D d 0 12 ++ ([L.p 6, L.p 7, L.p 8] ++ D d 15 54)) (fun L => [(L0.b 0, RC a), (L0.b 1, RC b), (L0.b 2, RC c), (L.b 6, T2.GC (T2.gp (mul F2.inv a g2))), (L.b 7, T2.GC (T2.gp (mul F2.inv b g2))), (L.b 8, GC (gp (mul finv c g1)))]) hp4 ⟨
    oL 0 0 rR, oH (v := T2.GV (T2.gp (mul F2.inv a g2))) (vs := #[RV a]) (fun w _ _ => law11g2 R a g2 w ha6 hg2 h2), oL 1 0 rR, oH (v := T2.GV (T2.gp (mul F2.inv b g2))) (vs := #[RV b]) (fun w _ _ => law11g2 R b g2 w hb6 hg2 h2),
    oL 2 0 rR, oH (v := GV (gp (mul finv c g1))) (vs := #[RV c]) (fun w _ _ => law11g1 R c g1 w hc6 hg1 h1), oZ T2.rG, oZ T2.rG, oZ rG, oT T2.rG, oT T2.rG, oT rG,
    trivial⟩ (fun L4 _ w5 hp5 => ?_)
  refine k8 _ _ ?_
  refine wp_seq_k (fun K9 k9 => ?_)
  refine drD [.det (GV (gp (mul finv c g1))), .det (T2.GV (T2.gp (mul F2.inv a g2))), .det (T2.GV (T2.gp (mul F2.inv b g2))), .det (T2.GV (T2.gp (mul F2.inv (a + b) g2))), .det (V12 z), .det (GV (gp (mul finv c g1))), .det (T2.GV (T2.gp (mul F2.inv a g2))), .det (V12 x), .det (GV (gp (mul finv c g1))), .det (T2.GV (T2.gp (mul F2.inv b g2))), .det (V12 y), .det (V12 (x * y)), .det (.bool true), .det (.bool true)] [0, 1, 2, 3, 4, 5, 6, 7, 8, 9, 10, 11, 12, 13] [0, 0, 0, 6, 15, 0, 0, 127, 0, 0, 1023, 2047, 4095, 8191] (fun L d => D d 0 8 ++ ([.bool true] ++ D d 9 60)) (fun L => [(L0.b 0, RC a), (L0.b 1, RC b), (L0.b 2, RC c), (L4.b 6, T2.GC (T2.gp (mul F2.inv a g2))), (L4.b 7, T2.GC (T2.gp (mul F2.inv b g2))), (L4.b 8, GC (gp (mul finv c g1)))]) hp5 ⟨
    oL 5 0 rG, oL 3 0 T2.rG, oL 4 0 T2.rG, oR (plus2S R h2 a b), oC K.stay hg (tellS K hg1 hg2 c (a + b) hz), oL 5 0 rG, oL 3 0 T2.rG, oC K.stay hg (tellS K hg1 hg2 c a hx),
    oL 5 0 rG, oL 4 0 T2.rG, oC K.stay hg (tellS K hg1 hg2 c b hy), oR (ref5Mul12 R x y), oE (a := z) (b := (x * y)) q12 (yes hzz), oA,
    trivial⟩ (fun L5 _ w6 hp6 => ?_)
  refine k9 _ _ ?_
  refine wp_ret ?_
  refine bodyPost_ret (v := .bool true) ?_ rfl ?_
  · exact res_t rfl (by kernel_rfl) _
  · exact ⟨rfl, hp6.bel⟩
theorem pairingSums_walk {G : World → Prop} (K : PairK G) (R : RefK) (a b c : Nat) (s : Bool) (w : World) (hg : G w) (ha6 : a < 2 ^ 256) (hb6 : b < 2 ^ 256) (hc6 : c < 2 ^ 256) : Calls Tryz.prog 6 #[RV a, RV b, RV c, .bool s] w (Ret (.bool true) w) := by
  by_cases ha : a < ordR
  · by_cases hb : b < ordR
    · by_cases hc : c < ordR
      · cases s
        · exact pairSumsF K R a b c gen1 gen2 _ _ _ w hg ha6 hb6 hc6 ha hb hc rfl rfl gen1_on gen2_on rfl rfl rfl (by rw [Nat.mul_add, npw_add])
        · exact pairSumsT K R a b c gen1 gen2 _ _ _ w hg ha6 hb6 hc6 ha hb hc rfl rfl gen1_on gen2_on rfl rfl rfl (by rw [Nat.add_mul, npw_add])
      · exact pairSums2 K R a b c gen1 gen2 0 0 0 s w hg ha6 hb6 hc6 ha hb hc rfl rfl gen1_on gen2_on
    · exact pairSums1 K R a b c gen1 gen2 0 0 0 s w hg ha6 hb6 hc6 ha hb rfl rfl gen1_on gen2_on
  · exact pairSums0 K R a b c gen1 gen2 0 0 0 s w hg ha6 hb6 hc6 ha rfl rfl gen1_on gen2_on
end Go.Proofs.YthnfgmhehfombaaGreatDoor.fpn
