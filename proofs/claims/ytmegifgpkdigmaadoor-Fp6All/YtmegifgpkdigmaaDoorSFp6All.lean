/- Fp6AllWalk. -/
import Derived.Test.YtmegifgpkdigmaaDoorGG
/- Fp6All walked. -/
namespace Go.Proofs.YtmegifgpkdigmaaDoor.fpn
open Go.RowKit Pl
set_option linter.unusedVariables false
set_option linter.unusedSimpArgs false
set_option maxRecDepth 4000

/-- Limbs are a three, or may not be one. -/
theorem three_or {G : World → Prop} (K : FpK G) (R : RefK) (f g f2 g2 f3 g3 : Nat → Int) (rf : Rg f 6) (rg : Rg g 6) (rf2 : Rg f2 6) (rg2 : Rg g2 6) (rf3 : Rg f3 6) (rg3 : Rg g3 6) :
    ((∃ x : F6, QV6 f g f2 g2 f3 g3 = V6 x) ∧ (∀ w, G w → Calls Tryd.prog 6 #[QV6 f g f2 g2 f3 g3] w (Ret (.bool true) w)) ∧ (∀ w, G w → Calls Tryd.prog 7 #[QV6 f g f2 g2 f3 g3] w (Ret (.bool true) w))) ∨
    ((∀ w, G w → Calls Tryd.prog 6 #[QV6 f g f2 g2 f3 g3] w (Ret (.bool false) w)) ∧ (∀ w, G w → Calls Tryd.prog 7 #[QV6 f g f2 g2 f3 g3] w (Ret (.bool false) w))) := by
  have h1 := fun w => ref5May6 R f g f2 g2 f3 g3 w rf rg rf2 rg2 rf3 rg3
  have h2 := fun w hg => fp6May K f g f2 g2 f3 g3 w hg rf rg rf2 rg2 rf3 rg3
  cases h : (may2 f g && (may2 f2 g2 && may2 f3 g3)) with
  | false =>
    rw [h] at h1 h2
    exact .inr ⟨fun w _ => h1 w, h2⟩
  | true =>
    rw [h] at h1 h2
    simp only [may2, Bool.and_eq_true, decide_eq_true_eq] at h
    obtain ⟨⟨l0, l1⟩, ⟨l2, l3⟩, l4, l5⟩ := h
    obtain ⟨a, ha, -⟩ := num_of rf l0
    obtain ⟨b, hb, -⟩ := num_of rg l1
    obtain ⟨c, hc, -⟩ := num_of rf2 l2
    obtain ⟨d, hd, -⟩ := num_of rg2 l3
    obtain ⟨e, he, -⟩ := num_of rf3 l4
    obtain ⟨i, hi, -⟩ := num_of rg3 l5
    exact .inl ⟨⟨⟨⟨a, b⟩, ⟨c, d⟩, ⟨e, i⟩⟩, QV6_of (x := ⟨⟨a, b⟩, ⟨c, d⟩, ⟨e, i⟩⟩) ha hb hc hd he hi⟩, fun w _ => h1 w, h2⟩
set_option maxHeartbeats 4000000 in
theorem six0 {G : World → Prop} (K : FpK G) (R : RefK) (f g f2 g2 f3 g3 f4 g4 f5 g5 f6 g6 : Nat → Int) (w : World) (hg : G w) (hB : ∀ w, G w → Calls Tryd.prog 5 #[] w (Ret (.bool true) w)) (hm : ∀ w, G w → Calls Tryd.prog 6 #[QV6 f g f2 g2 f3 g3] w (Ret (.bool false) w)) (hm2 : ∀ w, G w → Calls Tryd.prog 7 #[QV6 f g f2 g2 f3 g3] w (Ret (.bool false) w)) : Calls Tryd.prog 3 #[QV6 f g f2 g2 f3 g3, QV6 f4 g4 f5 g5 f6 g6] w (Ret (.bool true) w) := by
  have hp0 := Heap.start w
  go_enter Tryd.func3, Tryd.ntmps3
  refine wp_seq_k (fun K1 k1 => ?_)
  refine gs [.alloc (QC6 f g f2 g2 f3 g3), .alloc (QC6 f4 g4 f5 g5 f6 g6), .det (.bool false)] [0, 1, 2] [0, 0, 0] (fun L => [QV6 f g f2 g2 f3 g3, QV6 f4 g4 f5 g5 f6 g6, pt (L.b 0) 0, pt (L.b 1) 0, .bool false] ++ U 82) (fun L => [(L.b 0, QC6 f g f2 g2 f3 g3), (L.b 1, QC6 f4 g4 f5 g5 f6 g6)]) hp0 ⟨
    oB, oB, oA,
    trivial⟩ (fun L0 w1 hp1 => ?_)
  refine k1 _ _ ?_
  refine wp_seq_k (fun K2 k2 => ?_)
  refine wp_seq_k (fun K3 k3 => ?_)
  refine gs [.det (.bool true), .det (.bool false)] [0, 1] [0, 1] (fun L => [QV6 f g f2 g2 f3 g3, QV6 f4 g4 f5 g5 f6 g6, pt (L0.b 0) 0, pt (L0.b 1) 0, .bool false, undef, undef, undef, undef, .bool true, .bool false] ++ U 76) (fun L => [((L0.b 0), QC6 f g f2 g2 f3 g3), ((L0.b 1), QC6 f4 g4 f5 g5 f6 g6)]) hp1 ⟨
    oC K.stay hg hB, oN,
    trivial⟩ (fun L1 w2 hp2 => ?_)
  refine k3 _ _ ?_
  refine wp_cond_false (by kernel_rfl) ?_
  refine skips ?_
  refine k2 _ _ ?_
  refine wp_seq_k (fun K4 k4 => ?_)
  refine wp_seq_k (fun K5 k5 => ?_)
  refine gs [.det (QV6 f g f2 g2 f3 g3), .det (.bool false), .det (.bool true), .det (.bool true), .det undef, .det undef, .det undef, .det (.bool true)] [0, 1, 2, 3, 4, 5, 6, 7] [0, 1, 3, 7, 15, 31, 63, 127] (fun L => [QV6 f g f2 g2 f3 g3, QV6 f4 g4 f5 g5 f6 g6, pt (L0.b 0) 0, pt (L0.b 1) 0, .bool false, undef, undef, undef, undef, .bool true, .bool false, QV6 f g f2 g2 f3 g3, .bool false, .bool true, .bool true, undef, undef, undef, .bool true] ++ U 68) (fun L => [((L0.b 0), QC6 f g f2 g2 f3 g3), ((L0.b 1), QC6 f4 g4 f5 g5 f6 g6)]) hp2 ⟨
    oL 0 0 r6, oC K.stay hg hm, oN, oM, oS, oS, oS, oP,
    trivial⟩ (fun L2 w3 hp3 => ?_)
  refine k5 _ _ ?_
  refine wp_cond_true (by kernel_rfl) ?_
  refine wp_seq_k (fun K6 k6 => ?_)
  refine dr [.det (QV6 f g f2 g2 f3 g3), .det (.bool false), .det (QV6 f g f2 g2 f3 g3), .det (.bool false), .det (.bool true), .det (.bool true)] [0, 1, 2, 3, 4, 5] [0, 1, 0, 7, 15, 31] (fun L => [QV6 f g f2 g2 f3 g3, QV6 f4 g4 f5 g5 f6 g6, pt (L0.b 0) 0, pt (L0.b 1) 0, .bool true, undef, undef, undef, undef, .bool true, .bool false, QV6 f g f2 g2 f3 g3, .bool false, .bool true, .bool true, undef, undef, undef, .bool true, QV6 f g f2 g2 f3 g3, .bool false, QV6 f g f2 g2 f3 g3, .bool false, .bool true] ++ U 63) (fun L => [((L0.b 0), QC6 f g f2 g2 f3 g3), ((L0.b 1), QC6 f4 g4 f5 g5 f6 g6)]) hp3 ⟨
    oL 0 0 r6, oC K.stay hg hm2, oL 0 0 r6, oC K.stay hg hm, oE (a := false) (b := false) qB (yes rfl), oA,
    trivial⟩ (fun L3 w4 hp4 => ?_)
  refine k6 _ _ ?_
  refine wp_ret ?_
  refine bodyPost_ret (v := .bool true) ?_ rfl ?_
  · exact res_t rfl (by kernel_rfl) _
  · exact ⟨rfl, hp4.bel⟩
set_option maxHeartbeats 4000000 in
theorem six1 {G : World → Prop} (K : FpK G) (R : RefK) (f g f2 g2 f3 g3 f4 g4 f5 g5 f6 g6 : Nat → Int) (w : World) (hg : G w) (hB : ∀ w, G w → Calls Tryd.prog 5 #[] w (Ret (.bool true) w)) (hm : ∀ w, G w → Calls Tryd.prog 6 #[QV6 f g f2 g2 f3 g3] w (Ret (.bool true) w)) (hm2 : ∀ w, G w → Calls Tryd.prog 7 #[QV6 f g f2 g2 f3 g3] w (Ret (.bool true) w)) (hn : ∀ w, G w → Calls Tryd.prog 6 #[QV6 f4 g4 f5 g5 f6 g6] w (Ret (.bool false) w)) : Calls Tryd.prog 3 #[QV6 f g f2 g2 f3 g3, QV6 f4 g4 f5 g5 f6 g6] w (Ret (.bool true) w) := by
  have hp0 := Heap.start w
  go_enter Tryd.func3, Tryd.ntmps3
  refine wp_seq_k (fun K1 k1 => ?_)
  refine gs [.alloc (QC6 f g f2 g2 f3 g3), .alloc (QC6 f4 g4 f5 g5 f6 g6), .det (.bool false)] [0, 1, 2] [0, 0, 0] (fun L => [QV6 f g f2 g2 f3 g3, QV6 f4 g4 f5 g5 f6 g6, pt (L.b 0) 0, pt (L.b 1) 0, .bool false] ++ U 82) (fun L => [(L.b 0, QC6 f g f2 g2 f3 g3), (L.b 1, QC6 f4 g4 f5 g5 f6 g6)]) hp0 ⟨
    oB, oB, oA,
    trivial⟩ (fun L0 w1 hp1 => ?_)
  refine k1 _ _ ?_
  refine wp_seq_k (fun K2 k2 => ?_)
  refine wp_seq_k (fun K3 k3 => ?_)
  refine gs [.det (.bool true), .det (.bool false)] [0, 1] [0, 1] (fun L => [QV6 f g f2 g2 f3 g3, QV6 f4 g4 f5 g5 f6 g6, pt (L0.b 0) 0, pt (L0.b 1) 0, .bool false, undef, undef, undef, undef, .bool true, .bool false] ++ U 76) (fun L => [((L0.b 0), QC6 f g f2 g2 f3 g3), ((L0.b 1), QC6 f4 g4 f5 g5 f6 g6)]) hp1 ⟨
    oC K.stay hg hB, oN,
    trivial⟩ (fun L1 w2 hp2 => ?_)
  refine k3 _ _ ?_
  refine wp_cond_false (by kernel_rfl) ?_
  refine skips ?_
  refine k2 _ _ ?_
  refine wp_seq_k (fun K4 k4 => ?_)
  refine wp_seq_k (fun K5 k5 => ?_)
  refine gs [.det (QV6 f g f2 g2 f3 g3), .det (.bool true), .det (.bool false), .det (.bool false), .det (QV6 f4 g4 f5 g5 f6 g6), .det (.bool false), .det (.bool true), .det (.bool true)] [0, 1, 2, 3, 4, 5, 6, 7] [0, 1, 3, 7, 15, 31, 63, 127] (fun L => [QV6 f g f2 g2 f3 g3, QV6 f4 g4 f5 g5 f6 g6, pt (L0.b 0) 0, pt (L0.b 1) 0, .bool false, undef, undef, undef, undef, .bool true, .bool false, QV6 f g f2 g2 f3 g3, .bool true, .bool false, .bool false, QV6 f4 g4 f5 g5 f6 g6, .bool false, .bool true, .bool true] ++ U 68) (fun L => [((L0.b 0), QC6 f g f2 g2 f3 g3), ((L0.b 1), QC6 f4 g4 f5 g5 f6 g6)]) hp2 ⟨
    oL 0 0 r6, oC K.stay hg hm, oN, oM, oL 1 0 r6, oC K.stay hg hn, oN, oP,
    trivial⟩ (fun L2 w3 hp3 => ?_)
  refine k5 _ _ ?_
  refine wp_cond_true (by kernel_rfl) ?_
  refine wp_seq_k (fun K6 k6 => ?_)
  refine dr [.det (QV6 f g f2 g2 f3 g3), .det (.bool true), .det (QV6 f g f2 g2 f3 g3), .det (.bool true), .det (.bool true), .det (.bool true)] [0, 1, 2, 3, 4, 5] [0, 1, 0, 7, 15, 31] (fun L => [QV6 f g f2 g2 f3 g3, QV6 f4 g4 f5 g5 f6 g6, pt (L0.b 0) 0, pt (L0.b 1) 0, .bool true, undef, undef, undef, undef, .bool true, .bool false, QV6 f g f2 g2 f3 g3, .bool true, .bool false, .bool false, QV6 f4 g4 f5 g5 f6 g6, .bool false, .bool true, .bool true, QV6 f g f2 g2 f3 g3, .bool true, QV6 f g f2 g2 f3 g3, .bool true, .bool true] ++ U 63) (fun L => [((L0.b 0), QC6 f g f2 g2 f3 g3), ((L0.b 1), QC6 f4 g4 f5 g5 f6 g6)]) hp3 ⟨
    oL 0 0 r6, oC K.stay hg hm2, oL 0 0 r6, oC K.stay hg hm, oE (a := true) (b := true) qB (yes rfl), oA,
    trivial⟩ (fun L3 w4 hp4 => ?_)
  refine k6 _ _ ?_
  refine wp_ret ?_
  refine bodyPost_ret (v := .bool true) ?_ rfl ?_
  · exact res_t rfl (by kernel_rfl) _
  · exact ⟨rfl, hp4.bel⟩
set_option maxHeartbeats 4000000 in
theorem six2 {G : World → Prop} (K : FpK G) (R : RefK) (x y : F6) (w : World) (hg : G w) (hB : ∀ w, G w → Calls Tryd.prog 5 #[] w (Ret (.bool true) w)) (hn : x.norm = 0) : Calls Tryd.prog 3 #[V6 x, V6 y] w (Ret (.bool true) w) := by
  have hp0 := Heap.start w
  go_enter Tryd.func3, Tryd.ntmps3
  refine wp_seq_k (fun K1 k1 => ?_)
  refine gs [.alloc (C6 x), .alloc (C6 y), .det (.bool false)] [0, 1, 2] [0, 0, 0] (fun L => [V6 x, V6 y, pt (L.b 0) 0, pt (L.b 1) 0, .bool false] ++ U 82) (fun L => [(L.b 0, C6 x), (L.b 1, C6 y)]) hp0 ⟨
    oB, oB, oA,
    trivial⟩ (fun L0 w1 hp1 => ?_)
  refine k1 _ _ ?_
  refine wp_seq_k (fun K2 k2 => ?_)
  refine wp_seq_k (fun K3 k3 => ?_)
  refine gs [.det (.bool true), .det (.bool false)] [0, 1] [0, 1] (fun L => [V6 x, V6 y, pt (L0.b 0) 0, pt (L0.b 1) 0, .bool false, undef, undef, undef, undef, .bool true, .bool false] ++ U 76) (fun L => [((L0.b 0), C6 x), ((L0.b 1), C6 y)]) hp1 ⟨
    oC K.stay hg hB, oN,
    trivial⟩ (fun L1 w2 hp2 => ?_)
  refine k3 _ _ ?_
  refine wp_cond_false (by kernel_rfl) ?_
  refine skips ?_
  refine k2 _ _ ?_
  refine wp_seq_k (fun K4 k4 => ?_)
  refine wp_seq_k (fun K5 k5 => ?_)
  refine gs [.det (V6 x), .det (.bool true), .det (.bool false), .det (.bool false), .det (V6 y), .det (.bool true), .det (.bool false), .det (.bool false)] [0, 1, 2, 3, 4, 5, 6, 7] [0, 1, 3, 7, 15, 31, 63, 127] (fun L => [V6 x, V6 y, pt (L0.b 0) 0, pt (L0.b 1) 0, .bool false, undef, undef, undef, undef, .bool true, .bool false, V6 x, .bool true, .bool false, .bool false, V6 y, .bool true, .bool false, .bool false] ++ U 68) (fun L => [((L0.b 0), C6 x), ((L0.b 1), C6 y)]) hp2 ⟨
    oL 0 0 r6, oR (ref5May6P R x), oN, oM, oL 1 0 r6, oR (ref5May6P R y), oN, oP,
    trivial⟩ (fun L2 w3 hp3 => ?_)
  refine k5 _ _ ?_
  refine wp_cond_false (by kernel_rfl) ?_
  refine skips ?_
  refine k4 _ _ ?_
  refine wp_seq_k (fun K6 k6 => ?_)
  refine gs [.det (V6 x), .det (.tuple #[V6 0, .int .i64 7]), .det (.tuple #[V6 0, .int .i64 7]), .det (V6 0), .det (.int .i64 7), .alloc (C6 0), .store (.new 5) 0 (C6 0) (C6 0), .det (.int .i64 7)] [0, 1, 2, 3, 4, 5, 6, 7] [0, 1, 3, 7, 7, 0, 47, 127] (fun L => [V6 x, V6 y, pt (L0.b 0) 0, pt (L0.b 1) 0, .bool false, pt (L.b 5) 0, .int .i64 7, undef, undef, .bool true, .bool false, V6 x, .bool true, .bool false, .bool false, V6 y, .bool true, .bool false, .bool false, undef, undef, undef, undef, undef, .tuple #[V6 0, .int .i64 7], V6 x, .tuple #[V6 0, .int .i64 7], V6 0, .int .i64 7] ++ U 58) (fun L => [((L0.b 0), C6 x), ((L0.b 1), C6 y), (L.b 5, C6 0)]) hp3 ⟨
    oL 0 0 r6, oH (v := .tuple #[V6 0, .int .i64 7]) (vs := #[V6 x]) (fun w hb _ => fp6Inv0 K x w (K.stay hg hb) hn), oM, oX, oX, oZ r6, oT r6, oA,
    trivial⟩ (fun L3 w4 hp4 => ?_)
  refine k6 _ _ ?_
  refine wp_seq_k (fun K7 k7 => ?_)
  refine gs [.det (V6 x), .det (.tuple #[V6 0, .int .i64 7]), .det (.tuple #[V6 0, .int .i64 7]), .det (V6 0), .det (.int .i64 7), .alloc (C6 0), .store (.new 5) 0 (C6 0) (C6 0), .det (.int .i64 7)] [0, 1, 2, 3, 4, 5, 6, 7] [0, 1, 3, 7, 7, 0, 47, 127] (fun L => [V6 x, V6 y, pt (L0.b 0) 0, pt (L0.b 1) 0, .bool false, pt (L3.b 5) 0, .int .i64 7, pt (L.b 5) 0, .int .i64 7, .bool true, .bool false, V6 x, .bool true, .bool false, .bool false, V6 y, .bool true, .bool false, .bool false, undef, undef, undef, undef, undef, .tuple #[V6 0, .int .i64 7], V6 x, .tuple #[V6 0, .int .i64 7], V6 0, .int .i64 7, .tuple #[V6 0, .int .i64 7], V6 x, .tuple #[V6 0, .int .i64 7], V6 0, .int .i64 7] ++ U 53) (fun L => [((L0.b 0), C6 x), ((L0.b 1), C6 y), ((L3.b 5), C6 0), (L.b 5, C6 0)]) hp4 ⟨
    oL 0 0 r6, oH (v := .tuple #[V6 0, .int .i64 7]) (vs := #[V6 x]) (fun w _ _ => ref5Inv60 R x w hn), oM, oX, oX, oZ r6, oT r6, oA,
    trivial⟩ (fun L4 w5 hp5 => ?_)
  refine k7 _ _ ?_
  refine wp_seq_k (fun K8 k8 => ?_)
  refine dr [.det (V6 x), .det (V6 y), .det (V6 (x + y)), .det (V6 x), .det (V6 y), .det (V6 (x + y)), .det (.bool true), .det (.bool true), .det (V6 x), .det (V6 y), .det (V6 (x - y)), .det (V6 x), .det (V6 y), .det (V6 (x - y)), .det (.bool true), .det (.bool true), .det (.bool true), .det (V6 x), .det (V6 (-x)), .det (V6 x), .det (V6 (-x)), .det (.bool true), .det (.bool true), .det (.bool true), .det (V6 x), .det (V6 y), .det (V6 (x * y)), .det (V6 x), .det (V6 y), .det (V6 (x * y)), .det (.bool true), .det (.bool true), .det (.bool true), .det (V6 x), .det (V6 x.up), .det (V6 x), .det (V6 x.up), .det (.bool true), .det (.bool true), .det (.bool true), .det (V6 x), .det (.bool true), .det (.bool true), .det (.bool true), .det (V6 0), .det (V6 0), .det (.bool true), .det (.bool true), .det (.bool true), .det (.int .i64 7), .det (.int .i64 7), .det (.bool true), .det (.bool true), .det (.bool true)] [0, 1, 2, 3, 4, 5, 6, 7, 8, 9, 10, 11, 12, 13, 14, 15, 16, 17, 18, 19, 20, 21, 22, 23, 24, 25, 26, 27, 28, 29, 30, 31, 32, 33, 34, 35, 36, 37, 38, 39, 40, 41, 42, 43, 44, 45, 46, 47, 48, 49, 50, 51, 52, 53] [0, 0, 3, 0, 0, 31, 63, 127, 255, 255, 1023, 255, 255, 8191, 16383, 32767, 65535, 131071, 262143, 131071, 1048575, 2097151, 4194303, 8388607, 16777215, 16777215, 67108863, 16777215, 16777215, 536870911, 1073741823, 2147483647, 4294967295, 8589934591, 17179869183, 8589934591, 68719476735, 137438953471, 274877906943, 549755813887, 1099511627775, 2199023255551, 4398046511103, 8796093022207, 17592186044415, 17592186044415, 70368744177663, 140737488355327, 281474976710655, 562949953421311, 562949953421311, 2251799813685247, 4503599627370495, 9007199254740991] (fun L => [V6 x, V6 y, pt (L0.b 0) 0, pt (L0.b 1) 0, .bool true, pt (L3.b 5) 0, .int .i64 7, pt (L4.b 5) 0, .int .i64 7, .bool true, .bool false, V6 x, .bool true, .bool false, .bool false, V6 y, .bool true, .bool false, .bool false, undef, undef, undef, undef, undef, .tuple #[V6 0, .int .i64 7], V6 x, .tuple #[V6 0, .int .i64 7], V6 0, .int .i64 7, .tuple #[V6 0, .int .i64 7], V6 x, .tuple #[V6 0, .int .i64 7], V6 0, .int .i64 7, V6 x, V6 y, V6 (x + y), V6 x, V6 y, V6 (x + y), .bool true, .bool true, V6 x, V6 y, V6 (x - y), V6 x, V6 y, V6 (x - y), .bool true, .bool true, .bool true, V6 x, V6 (-x), V6 x, V6 (-x), .bool true, .bool true, .bool true, V6 x, V6 y, V6 (x * y), V6 x, V6 y, V6 (x * y), .bool true, .bool true, .bool true, V6 x, V6 x.up, V6 x, V6 x.up, .bool true, .bool true, .bool true, V6 x, .bool true, .bool true, .bool true, V6 0, V6 0, .bool true, .bool true, .bool true, .int .i64 7, .int .i64 7, .bool true, .bool true]) (fun L => [((L0.b 0), C6 x), ((L0.b 1), C6 y), ((L3.b 5), C6 0), ((L4.b 5), C6 0)]) hp5 ⟨
    oL 0 0 r6, oL 1 0 r6, oC K.stay hg (fp6Add K x y), oL 0 0 r6, oL 1 0 r6, oR (ref5Add6 R x y), oE (a := (x + y)) (b := (x + y)) q6 (yes rfl), oM, oL 0 0 r6, oL 1 0 r6,
    oC K.stay hg (fp6Sub K x y), oL 0 0 r6, oL 1 0 r6, oR (ref5Sub6 R x y), oE (a := (x - y)) (b := (x - y)) q6 (yes rfl), oP, oM, oL 0 0 r6, oC K.stay hg (fp6Neg K x),
    oL 0 0 r6, oR (ref5Neg6 R x), oE (a := (-x)) (b := (-x)) q6 (yes rfl), oP, oM, oL 0 0 r6, oL 1 0 r6, oC K.stay hg (fp6Mul K x y), oL 0 0 r6, oL 1 0 r6, oR (ref5Mul6 R x y),
    oE (a := (x * y)) (b := (x * y)) q6 (yes rfl), oP, oM, oL 0 0 r6, oC K.stay hg (fp6Up K x), oL 0 0 r6, oR (ref5Up6 R x), oE (a := x.up) (b := x.up) q6 (yes rfl),
    oP, oM, oL 0 0 r6, oC K.stay hg (fp6MayP K x), oP, oM, oL 2 0 r6, oL 3 0 r6, oE (a := 0) (b := 0) q6 (yes rfl), oP, oM, oM, oM, oJ .i64 .i64 7 7 (h := fun w => (eqlI _ _ _ _ w).trans rfl),
    oP, oA,
    trivial⟩ (fun L5 w6 hp6 => ?_)
  refine k8 _ _ ?_
  refine wp_ret ?_
  refine bodyPost_ret (v := .bool true) ?_ rfl ?_
  · exact res_t rfl (by kernel_rfl) _
  · exact ⟨rfl, hp6.bel⟩
set_option maxHeartbeats 4000000 in
theorem six3 {G : World → Prop} (K : FpK G) (R : RefK) (x y : F6) (w : World) (hg : G w) (hB : ∀ w, G w → Calls Tryd.prog 5 #[] w (Ret (.bool true) w)) (hn : x.norm ≠ 0) : Calls Tryd.prog 3 #[V6 x, V6 y] w (Ret (.bool true) w) := by
  have hp0 := Heap.start w
  go_enter Tryd.func3, Tryd.ntmps3
  refine wp_seq_k (fun K1 k1 => ?_)
  refine gs [.alloc (C6 x), .alloc (C6 y), .det (.bool false)] [0, 1, 2] [0, 0, 0] (fun L => [V6 x, V6 y, pt (L.b 0) 0, pt (L.b 1) 0, .bool false] ++ U 82) (fun L => [(L.b 0, C6 x), (L.b 1, C6 y)]) hp0 ⟨
    oB, oB, oA,
    trivial⟩ (fun L0 w1 hp1 => ?_)
  refine k1 _ _ ?_
  refine wp_seq_k (fun K2 k2 => ?_)
  refine wp_seq_k (fun K3 k3 => ?_)
  refine gs [.det (.bool true), .det (.bool false)] [0, 1] [0, 1] (fun L => [V6 x, V6 y, pt (L0.b 0) 0, pt (L0.b 1) 0, .bool false, undef, undef, undef, undef, .bool true, .bool false] ++ U 76) (fun L => [((L0.b 0), C6 x), ((L0.b 1), C6 y)]) hp1 ⟨
    oC K.stay hg hB, oN,
    trivial⟩ (fun L1 w2 hp2 => ?_)
  refine k3 _ _ ?_
  refine wp_cond_false (by kernel_rfl) ?_
  refine skips ?_
  refine k2 _ _ ?_
  refine wp_seq_k (fun K4 k4 => ?_)
  refine wp_seq_k (fun K5 k5 => ?_)
  refine gs [.det (V6 x), .det (.bool true), .det (.bool false), .det (.bool false), .det (V6 y), .det (.bool true), .det (.bool false), .det (.bool false)] [0, 1, 2, 3, 4, 5, 6, 7] [0, 1, 3, 7, 15, 31, 63, 127] (fun L => [V6 x, V6 y, pt (L0.b 0) 0, pt (L0.b 1) 0, .bool false, undef, undef, undef, undef, .bool true, .bool false, V6 x, .bool true, .bool false, .bool false, V6 y, .bool true, .bool false, .bool false] ++ U 68) (fun L => [((L0.b 0), C6 x), ((L0.b 1), C6 y)]) hp2 ⟨
    oL 0 0 r6, oR (ref5May6P R x), oN, oM, oL 1 0 r6, oR (ref5May6P R y), oN, oP,
    trivial⟩ (fun L2 w3 hp3 => ?_)
  refine k5 _ _ ?_
  refine wp_cond_false (by kernel_rfl) ?_
  refine skips ?_
  refine k4 _ _ ?_
  refine wp_seq_k (fun K6 k6 => ?_)
  refine gs [.det (V6 x), .det (.tuple #[V6 x.inv, .int .i64 0]), .det (.tuple #[V6 x.inv, .int .i64 0]), .det (V6 x.inv), .det (.int .i64 0), .alloc (C6 0), .store (.new 5) 0 (C6 x.inv) (C6 x.inv), .det (.int .i64 0)] [0, 1, 2, 3, 4, 5, 6, 7] [0, 1, 3, 7, 7, 0, 47, 127] (fun L => [V6 x, V6 y, pt (L0.b 0) 0, pt (L0.b 1) 0, .bool false, pt (L.b 5) 0, .int .i64 0, undef, undef, .bool true, .bool false, V6 x, .bool true, .bool false, .bool false, V6 y, .bool true, .bool false, .bool false, undef, undef, undef, undef, undef, .tuple #[V6 x.inv, .int .i64 0], V6 x, .tuple #[V6 x.inv, .int .i64 0], V6 x.inv, .int .i64 0] ++ U 58) (fun L => [((L0.b 0), C6 x), ((L0.b 1), C6 y), (L.b 5, C6 x.inv)]) hp3 ⟨
    oL 0 0 r6, oH (v := .tuple #[V6 x.inv, .int .i64 0]) (vs := #[V6 x]) (fun w hb _ => fp6Inv K x w (K.stay hg hb) hn), oM, oX, oX, oZ r6, oT r6, oA,
    trivial⟩ (fun L3 w4 hp4 => ?_)
  refine k6 _ _ ?_
  refine wp_seq_k (fun K7 k7 => ?_)
  refine gs [.det (V6 x), .det (.tuple #[V6 x.inv, .int .i64 0]), .det (.tuple #[V6 x.inv, .int .i64 0]), .det (V6 x.inv), .det (.int .i64 0), .alloc (C6 0), .store (.new 5) 0 (C6 x.inv) (C6 x.inv), .det (.int .i64 0)] [0, 1, 2, 3, 4, 5, 6, 7] [0, 1, 3, 7, 7, 0, 47, 127] (fun L => [V6 x, V6 y, pt (L0.b 0) 0, pt (L0.b 1) 0, .bool false, pt (L3.b 5) 0, .int .i64 0, pt (L.b 5) 0, .int .i64 0, .bool true, .bool false, V6 x, .bool true, .bool false, .bool false, V6 y, .bool true, .bool false, .bool false, undef, undef, undef, undef, undef, .tuple #[V6 x.inv, .int .i64 0], V6 x, .tuple #[V6 x.inv, .int .i64 0], V6 x.inv, .int .i64 0, .tuple #[V6 x.inv, .int .i64 0], V6 x, .tuple #[V6 x.inv, .int .i64 0], V6 x.inv, .int .i64 0] ++ U 53) (fun L => [((L0.b 0), C6 x), ((L0.b 1), C6 y), ((L3.b 5), C6 x.inv), (L.b 5, C6 x.inv)]) hp4 ⟨
    oL 0 0 r6, oH (v := .tuple #[V6 x.inv, .int .i64 0]) (vs := #[V6 x]) (fun w _ _ => ref5Inv6 R x w hn), oM, oX, oX, oZ r6, oT r6, oA,
    trivial⟩ (fun L4 w5 hp5 => ?_)
  refine k7 _ _ ?_
  refine wp_seq_k (fun K8 k8 => ?_)
  refine dr [.det (V6 x), .det (V6 y), .det (V6 (x + y)), .det (V6 x), .det (V6 y), .det (V6 (x + y)), .det (.bool true), .det (.bool true), .det (V6 x), .det (V6 y), .det (V6 (x - y)), .det (V6 x), .det (V6 y), .det (V6 (x - y)), .det (.bool true), .det (.bool true), .det (.bool true), .det (V6 x), .det (V6 (-x)), .det (V6 x), .det (V6 (-x)), .det (.bool true), .det (.bool true), .det (.bool true), .det (V6 x), .det (V6 y), .det (V6 (x * y)), .det (V6 x), .det (V6 y), .det (V6 (x * y)), .det (.bool true), .det (.bool true), .det (.bool true), .det (V6 x), .det (V6 x.up), .det (V6 x), .det (V6 x.up), .det (.bool true), .det (.bool true), .det (.bool true), .det (V6 x), .det (.bool true), .det (.bool true), .det (.bool true), .det (V6 x.inv), .det (V6 x.inv), .det (.bool true), .det (.bool true), .det (.bool true), .det (.int .i64 0), .det (.int .i64 0), .det (.bool true), .det (.bool true), .det (.bool true)] [0, 1, 2, 3, 4, 5, 6, 7, 8, 9, 10, 11, 12, 13, 14, 15, 16, 17, 18, 19, 20, 21, 22, 23, 24, 25, 26, 27, 28, 29, 30, 31, 32, 33, 34, 35, 36, 37, 38, 39, 40, 41, 42, 43, 44, 45, 46, 47, 48, 49, 50, 51, 52, 53] [0, 0, 3, 0, 0, 31, 63, 127, 255, 255, 1023, 255, 255, 8191, 16383, 32767, 65535, 131071, 262143, 131071, 1048575, 2097151, 4194303, 8388607, 16777215, 16777215, 67108863, 16777215, 16777215, 536870911, 1073741823, 2147483647, 4294967295, 8589934591, 17179869183, 8589934591, 68719476735, 137438953471, 274877906943, 549755813887, 1099511627775, 2199023255551, 4398046511103, 8796093022207, 17592186044415, 17592186044415, 70368744177663, 140737488355327, 281474976710655, 562949953421311, 562949953421311, 2251799813685247, 4503599627370495, 9007199254740991] (fun L => [V6 x, V6 y, pt (L0.b 0) 0, pt (L0.b 1) 0, .bool true, pt (L3.b 5) 0, .int .i64 0, pt (L4.b 5) 0, .int .i64 0, .bool true, .bool false, V6 x, .bool true, .bool false, .bool false, V6 y, .bool true, .bool false, .bool false, undef, undef, undef, undef, undef, .tuple #[V6 x.inv, .int .i64 0], V6 x, .tuple #[V6 x.inv, .int .i64 0], V6 x.inv, .int .i64 0, .tuple #[V6 x.inv, .int .i64 0], V6 x, .tuple #[V6 x.inv, .int .i64 0], V6 x.inv, .int .i64 0, V6 x, V6 y, V6 (x + y), V6 x, V6 y, V6 (x + y), .bool true, .bool true, V6 x, V6 y, V6 (x - y), V6 x, V6 y, V6 (x - y), .bool true, .bool true, .bool true, V6 x, V6 (-x), V6 x, V6 (-x), .bool true, .bool true, .bool true, V6 x, V6 y, V6 (x * y), V6 x, V6 y, V6 (x * y), .bool true, .bool true, .bool true, V6 x, V6 x.up, V6 x, V6 x.up, .bool true, .bool true, .bool true, V6 x, .bool true, .bool true, .bool true, V6 x.inv, V6 x.inv, .bool true, .bool true, .bool true, .int .i64 0, .int .i64 0, .bool true, .bool true]) (fun L => [((L0.b 0), C6 x), ((L0.b 1), C6 y), ((L3.b 5), C6 x.inv), ((L4.b 5), C6 x.inv)]) hp5 ⟨
    oL 0 0 r6, oL 1 0 r6, oC K.stay hg (fp6Add K x y), oL 0 0 r6, oL 1 0 r6, oR (ref5Add6 R x y), oE (a := (x + y)) (b := (x + y)) q6 (yes rfl), oM, oL 0 0 r6, oL 1 0 r6,
    oC K.stay hg (fp6Sub K x y), oL 0 0 r6, oL 1 0 r6, oR (ref5Sub6 R x y), oE (a := (x - y)) (b := (x - y)) q6 (yes rfl), oP, oM, oL 0 0 r6, oC K.stay hg (fp6Neg K x),
    oL 0 0 r6, oR (ref5Neg6 R x), oE (a := (-x)) (b := (-x)) q6 (yes rfl), oP, oM, oL 0 0 r6, oL 1 0 r6, oC K.stay hg (fp6Mul K x y), oL 0 0 r6, oL 1 0 r6, oR (ref5Mul6 R x y),
    oE (a := (x * y)) (b := (x * y)) q6 (yes rfl), oP, oM, oL 0 0 r6, oC K.stay hg (fp6Up K x), oL 0 0 r6, oR (ref5Up6 R x), oE (a := x.up) (b := x.up) q6 (yes rfl),
    oP, oM, oL 0 0 r6, oC K.stay hg (fp6MayP K x), oP, oM, oL 2 0 r6, oL 3 0 r6, oE (a := x.inv) (b := x.inv) q6 (yes rfl), oP, oM, oM, oM, oJ .i64 .i64 0 0 (h := fun w => (eqlI _ _ _ _ w).trans rfl),
    oP, oA,
    trivial⟩ (fun L5 w6 hp6 => ?_)
  refine k8 _ _ ?_
  refine wp_ret ?_
  refine bodyPost_ret (v := .bool true) ?_ rfl ?_
  · exact res_t rfl (by kernel_rfl) _
  · exact ⟨rfl, hp6.bel⟩
/-- What Fp6All answers. -/
theorem fp6All_walk {G : World → Prop} (K : FpK G) (R : RefK) (f g f2 g2 f3 g3 f4 g4 f5 g5 f6 g6 : Nat → Int) (rf : Rg f 6) (rg : Rg g 6) (rf2 : Rg f2 6) (rg2 : Rg g2 6) (rf3 : Rg f3 6) (rg3 : Rg g3 6) (rf4 : Rg f4 6) (rg4 : Rg g4 6) (rf5 : Rg f5 6) (rg5 : Rg g5 6) (rf6 : Rg f6 6) (rg6 : Rg g6 6) (w : World) (hg : G w) :
    Calls Tryd.prog 3 #[QV6 f g f2 g2 f3 g3, QV6 f4 g4 f5 g5 f6 g6] w (Ret (.bool true) w) := by
  have hB := fun w hg => begun6 K w hg
  rcases three_or K R f g f2 g2 f3 g3 rf rg rf2 rg2 rf3 rg3 with ⟨⟨x, hx⟩, h1, h2⟩ | ⟨h1, h2⟩
  · rcases three_or K R f4 g4 f5 g5 f6 g6 rf4 rg4 rf5 rg5 rf6 rg6 with ⟨⟨y, hy⟩, h3, h4⟩ | ⟨h3, h4⟩
    · rw [hx, hy]
      by_cases hn : x.norm = 0
      · exact six2 K R x y w hg hB hn
      · exact six3 K R x y w hg hB hn
    · exact six1 K R f g f2 g2 f3 g3 f4 g4 f5 g5 f6 g6 w hg hB h1 h2 h3
  · exact six0 K R f g f2 g2 f3 g3 f4 g4 f5 g5 f6 g6 w hg hB h1 h2
end Go.Proofs.YtmegifgpkdigmaaDoor.fpn
