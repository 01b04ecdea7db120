/- Fp6AllWalk Fp6FieldWalk. -/
import Derived.Test.YtmegifgpkdigmaaDoorGG
/- Fp6All walked. -/
namespace Go.Proofs.YtmegifgpkdigmaaDoor.fpn
open Go.RowKit Pl
set_option linter.unusedVariables false
set_option linter.unusedSimpArgs false
set_option maxRecDepth 4000

/-- Limbs are a three, or may not be one. -/
theorem three_or {G : World → Prop} (K : FpK G) (R : RefK) (f g f2 g2 f3 g3 : Nat → Int) (rf : Rg f 6) (rg : Rg g 6) (rf2 : Rg f2 6) (rg2 : Rg g2 6) (rf3 : Rg f3 6) (rg3 : Rg g3 6) :
    ((∃ x : F6, QV6 f g f2 g2 f3 g3 = V6 x) ∧ (∀ w, G w → Calls Tryd.prog 6 #[QV6 f g f2 g2 f3 g3] w (Ret (.bool true) w)) ∧ (∀ w, G w → Calls Tryd.prog 7 #[QV6 f g f2 g2 f3 g3] w (Ret (.bool true) w))) ∨
    ((∀ w, G w → Calls Tryd.prog 6 #[QV6 f g f2 g2 f3 g3] w (Ret (.bool false) w)) ∧ (∀ w, G w → Calls Tryd.prog 7 #[QV6 f g f2 g2 f3 g3] w (Ret (.bool false) w))) := by
  have h1 := fun w => ref5May6 R f g f2 g2 f3 g3 w rf rg rf2 rg2 rf3 rg3
  have h2 := fun w hg => fp6May K f g f2 g2 f3 g3 w hg rf rg rf2 rg2 rf3 rg3
  cases h : (may2 f g && (may2 f2 g2 && may2 f3 g3)) with
  | false =>
    rw [h] at h1 h2
    exact .inr ⟨fun w _ => h1 w, h2⟩
  | true =>
    rw [h] at h1 h2
    simp only [may2, Bool.and_eq_true, decide_eq_true_eq] at h
    obtain ⟨⟨l0, l1⟩, ⟨l2, l3⟩, l4, l5⟩ := h
    obtain ⟨a, ha, -⟩ := num_of rf l0
    obtain ⟨b, hb, -⟩ := num_of rg l1
    obtain ⟨c, hc, -⟩ := num_of rf2 l2
    obtain ⟨d, hd, -⟩ := num_of rg2 l3
    obtain ⟨e, he, -⟩ := num_of rf3 l4
    obtain ⟨i, hi, -⟩ := num_of rg3 l5
    exact .inl ⟨⟨⟨⟨a, b⟩, ⟨c, d⟩, ⟨e, i⟩⟩, QV6_of (x := ⟨⟨a, b⟩, ⟨c, d⟩, ⟨e, i⟩⟩) ha hb hc hd he hi⟩, fun w _ => h1 w, h2⟩
set_option maxHeartbeats 4000000 in
theorem six0 {G : World → Prop} (K : FpK G) (R : RefK) (f g f2 g2 f3 g3 f4 g4 f5 g5 f6 g6 : Nat → Int) (w : World) (hg : G w) (hB : ∀ w, G w → Calls Tryd.prog 5 #[] w (Ret (.bool true) w)) (hm : ∀ w, G w → Calls Tryd.prog 6 #[QV6 f g f2 g2 f3 g3] w (Ret (.bool false) w)) (hm2 : ∀ w, G w → Calls Tryd.prog 7 #[QV6 f g f2 g2 f3 g3] w (Ret (.bool false) w)) : Calls Tryd.prog 3 #[QV6 f g f2 g2 f3 g3, QV6 f4 g4 f5 g5 f6 g6] w (Ret (.bool true) w) := by
  have hp0 := Heap.start w
  go_enter Tryd.func3, Tryd.ntmps3
  refine wp_seq_k (fun K1 k1 => ?_)
  refine gs [.alloc (QC6 f g f2 g2 f3 g3), .alloc (QC6 f4 g4 f5 g5 f6 g6), .det (.bool false)] [0, 1, 2] [0, 0, 0] (fun L => [QV6 f g f2 g2 f3 g3, QV6 f4 g4 f5 g5 f6 g6, pt (L.b 0) 0, pt (L.b 1) 0, .bool false] ++ U 82) (fun L => [(L.b 0, QC6 f g f2 g2 f3 g3), (L.b 1, QC6 f4 g4 f5 g5 f6 g6)]) hp0 ⟨
    oB, oB, oA,
    trivial⟩ (fun L0 w1 hp1 => ?_)
  refine k1 _ _ ?_
  refine wp_seq_k (fun K2 k2 => ?_)
  refine wp_seq_k (fun K3 k3 => ?_)
  refine gs [.det (.bool true), .det (.bool false)] [0, 1] [0, 1] (fun L => [QV6 f g f2 g2 f3 g3, QV6 f4 g4 f5 g5 f6 g6, pt (L0.b 0) 0, pt (L0.b 1) 0, .bool false, undef, undef, undef, undef, .bool true, .bool false] ++ U 76) (fun L => [((L0.b 0), QC6 f g f2 g2 f3 g3), ((L0.b 1), QC6 f4 g4 f5 g5 f6 g6)]) hp1 ⟨
    oC K.stay hg hB, oN,
    trivial⟩ (fun L1 w2 hp2 => ?_)
  refine k3 _ _ ?_
  refine wp_cond_false (by kernel_rfl) ?_
  refine skips ?_
  refine k2 _ _ ?_
  refine wp_seq_k (fun K4 k4 => ?_)
  refine wp_seq_k (fun K5 k5 => ?_)
  refine gs [.det (QV6 f g f2 g2 f3 g3), .det (.bool false), .det (.bool true), .det (.bool true), .det undef, .det undef, .det undef, .det (.bool true)] [0, 1, 2, 3, 4, 5, 6, 7] [0, 1, 3, 7, 15, 31, 63, 127] (fun L => [QV6 f g f2 g2 f3 g3, QV6 f4 g4 f5 g5 f6 g6, pt (L0.b 0) 0, pt (L0.b 1) 0, .bool false, undef, undef, undef, undef, .bool true, .bool false, QV6 f g f2 g2 f3 g3, .bool false, .bool true, .bool true, undef, undef, undef, .bool true] ++ U 68) (fun L => [((L0.b 0), QC6 f g f2 g2 f3 g3), ((L0.b 1), QC6 f4 g4 f5 g5 f6 g6)]) hp2 ⟨
    oL 0 0 r6, oC K.stay hg hm, oN, oM, oS, oS, oS, oP,
    trivial⟩ (fun L2 w3 hp3 => ?_)
  refine k5 _ _ ?_
  refine wp_cond_true (by kernel_rfl) ?_
  refine wp_seq_k (fun K6 k6 => ?_)
  refine dr [.det (QV6 f g f2 g2 f3 g3), .det (.bool false), .det (QV6 f g f2 g2 f3 g3), .det (.bool false), .det (.bool true), .det (.bool true)] [0, 1, 2, 3, 4, 5] [0, 1, 0, 7, 15, 31] (fun L => [QV6 f g f2 g2 f3 g3, QV6 f4 g4 f5 g5 f6 g6, pt (L0.b 0) 0, pt (L0.b 1) 0, .bool true, undef, undef, undef, undef, .bool true, .bool false, QV6 f g f2 g2 f3 g3, .bool false, .bool true, .bool true, undef, undef, undef, .bool true, QV6 f g f2 g2 f3 g3, .bool false, QV6 f g f2 g2 f3 g3, .bool false, .bool true] ++ U 63) (fun L => [((L0.b 0), QC6 f g f2 g2 f3 g3), ((L0.b 1), QC6 f4 g4 f5 g5 f6 g6)]) hp3 ⟨
    oL 0 0 r6, oC K.stay hg hm2, oL 0 0 r6, oC K.stay hg hm, oE (a := false) (b := false) qB (yes rfl), oA,
    trivial⟩ (fun L3 w4 hp4 => ?_)
  refine k6 _ _ ?_
  refine wp_ret ?_
  refine bodyPost_ret (v := .bool true) ?_ rfl ?_
  · exact res_t rfl (by kernel_rfl) _
  · exact ⟨rfl, hp4.bel⟩
set_option maxHeartbeats 4000000 in
theorem six1 {G : World → Prop} (K : FpK G) (R : RefK) (f g f2 g2 f3 g3 f4 g4 f5 g5 f6 g6 : Nat → Int) (w : World) (hg : G w) (hB : ∀ w, G w → Calls Tryd.prog 5 #[] w (Ret (.bool true) w)) (hm : ∀ w, G w → Calls Tryd.prog 6 #[QV6 f g f2 g2 f3 g3] w (Ret (.bool true) w)) (hm2 : ∀ w, G w → Calls Tryd.prog 7 #[QV6 f g f2 g2 f3 g3] w (Ret (.bool true) w)) (hn : ∀ w, G w → Calls Tryd.prog 6 #[QV6 f4 g4 f5 g5 f6 g6] w (Ret (.bool false) w)) : Calls Tryd.prog 3 #[QV6 f g f2 g2 f3 g3, QV6 f4 g4 f5 g5 f6 g6] w (Ret (.bool true) w) := by
  have hp0 := Heap.start w
  go_enter Tryd.func3, Tryd.ntmps3
  refine wp_seq_k (fun K1 k1 => ?_)
  refine gs [.alloc (QC6 f g f2 g2 f3 g3), .alloc (QC6 f4 g4 f5 g5 f6 g6), .det (.bool false)] [0, 1, 2] [0, 0, 0] (fun L => [QV6 f g f2 g2 f3 g3, QV6 f4 g4 f5 g5 f6 g6, pt (L.b 0) 0, pt (L.b 1) 0, .bool false] ++ U 82) (fun L => [(L.b 0, QC6 f g f2 g2 f3 g3), (L.b 1, QC6 f4 g4 f5 g5 f6 g6)]) hp0 ⟨
    oB, oB, oA,
    trivial⟩ (fun L0 w1 hp1 => ?_)
  refine k1 _ _ ?_
  refine wp_seq_k (fun K2 k2 => ?_)
  refine wp_seq_k (fun K3 k3 => ?_)
  refine gs [.det (.bool true), .det (.bool false)] [0, 1] [0, 1] (fun L => [QV6 f g f2 g2 f3 g3, QV6 f4 g4 f5 g5 f6 g6, pt (L0.b 0) 0, pt (L0.b 1) 0, .bool false, undef, undef, undef, undef, .bool true, .bool false] ++ U 76) (fun L => [((L0.b 0), QC6 f g f2 g2 f3 g3), ((L0.b 1), QC6 f4 g4 f5 g5 f6 g6)]) hp1 ⟨
    oC K.stay hg hB, oN,
    trivial⟩ (fun L1 w2 hp2 => ?_)
  refine k3 _ _ ?_
  refine wp_cond_false (by kernel_rfl) ?_
  refine skips ?_
  refine k2 _ _ ?_
  refine wp_seq_k (fun K4 k4 => ?_)
  refine wp_seq_k (fun K5 k5 => ?_)
  refine gs [.det (QV6 f g f2 g2 f3 g3), .det (.bool true), .det (.bool false), .det (.bool false), .det (QV6 f4 g4 f5 g5 f6 g6), .det (.bool false), .det (.bool true), .det (.bool true)] [0, 1, 2, 3, 4, 5, 6, 7] [0, 1, 3, 7, 15, 31, 63, 127] (fun L => [QV6 f g f2 g2 f3 g3, QV6 f4 g4 f5 g5 f6 g6, pt (L0.b 0) 0, pt (L0.b 1) 0, .bool false, undef, undef, undef, undef, .bool true, .bool false, QV6 f g f2 g2 f3 g3, .bool true, .bool false, .bool false, QV6 f4 g4 f5 g5 f6 g6, .bool false, .bool true, .bool true] ++ U 68) (fun L => [((L0.b 0), QC6 f g f2 g2 f3 g3), ((L0.b 1), QC6 f4 g4 f5 g5 f6 g6)]) hp2 ⟨
    oL 0 0 r6, oC K.stay hg hm, oN, oM, oL 1 0 r6, oC K.stay hg hn, oN, oP,
    trivial⟩ (fun L2 w3 hp3 => ?_)
  refine k5 _ _ ?_
  refine wp_cond_true (by kernel_rfl) ?_
  refine wp_seq_k (fun K6 k6 => ?_)
  refine dr [.det (QV6 f g f2 g2 f3 g3), .det (.bool true), .det (QV6 f g f2 g2 f3 g3), .det (.bool true), .det (.bool true), .det (.bool true)] [0, 1, 2, 3, 4, 5] [0, 1, 0, 7, 15, 31] (fun L => [QV6 f g f2 g2 f3 g3, QV6 f4 g4 f5 g5 f6 g6, pt (L0.b 0) 0, pt (L0.b 1) 0, .bool true, undef, undef, undef, undef, .bool true, .bool false, QV6 f g f2 g2 f3 g3, .bool true, .bool false, .bool false, QV6 f4 g4 f5 g5 f6 g6, .bool false, .bool true, .bool true, QV6 f g f2 g2 f3 g3, .bool true, QV6 f g f2 g2 f3 g3, .bool true, .bool true] ++ U 63) (fun L => [((L0.b 0), QC6 f g f2 g2 f3 g3), ((L0.b 1), QC6 f4 g4 f5 g5 f6 g6)]) hp3 ⟨
    oL 0 0 r6, oC K.stay hg hm2, oL 0 0 r6, oC K.stay hg hm, oE (a := true) (b := true) qB (yes rfl), oA,
    trivial⟩ (fun L3 w4 hp4 => ?_)
  refine k6 _ _ ?_
  refine wp_ret ?_
  refine bodyPost_ret (v := .bool true) ?_ rfl ?_
  · exact res_t rfl (by kernel_rfl) _
  · exact ⟨rfl, hp4.bel⟩
set_option maxHeartbeats 4000000 in
theorem six2 {G : World → Prop} (K : FpK G) (R : RefK) (x y : F6) (w : World) (hg : G w) (hB : ∀ w, G w → Calls Tryd.prog 5 #[] w (Ret (.bool true) w)) (hn : x.norm = 0) : Calls Tryd.prog 3 #[V6 x, V6 y] w (Ret (.bool true) w) := by
  have hp0 := Heap.start w
  go_enter Tryd.func3, Tryd.ntmps3
  refine wp_seq_k (fun K1 k1 => ?_)
  refine gs [.alloc (C6 x), .alloc (C6 y), .det (.bool false)] [0, 1, 2] [0, 0, 0] (fun L => [V6 x, V6 y, pt (L.b 0) 0, pt (L.b 1) 0, .bool false] ++ U 82) (fun L => [(L.b 0, C6 x), (L.b 1, C6 y)]) hp0 ⟨
    oB, oB, oA,
    trivial⟩ (fun L0 w1 hp1 => ?_)
  refine k1 _ _ ?_
  refine wp_seq_k (fun K2 k2 => ?_)
  refine wp_seq_k (fun K3 k3 => ?_)
  refine gs [.det (.bool true), .det (.bool false)] [0, 1] [0, 1] (fun L => [V6 x, V6 y, pt (L0.b 0) 0, pt (L0.b 1) 0, .bool false, undef, undef, undef, undef, .bool true, .bool false] ++ U 76) (fun L => [((L0.b 0), C6 x), ((L0.b 1), C6 y)]) hp1 ⟨
    oC K.stay hg hB, oN,
    trivial⟩ (fun L1 w2 hp2 => ?_)
  refine k3 _ _ ?_
  refine wp_cond_false (by kernel_rfl) ?_
  refine skips ?_
  refine k2 _ _ ?_
  refine wp_seq_k (fun K4 k4 => ?_)
  refine wp_seq_k (fun K5 k5 => ?_)
  refine gs [.det (V6 x), .det (.bool true), .det (.bool false), .det (.bool false), .det (V6 y), .det (.bool true), .det (.bool false), .det (.bool false)] [0, 1, 2, 3, 4, 5, 6, 7] [0, 1, 3, 7, 15, 31, 63, 127] (fun L => [V6 x, V6 y, pt (L0.b 0) 0, pt (L0.b 1) 0, .bool false, undef, undef, undef, undef, .bool true, .bool false, V6 x, .bool true, .bool false, .bool false, V6 y, .bool true, .bool false, .bool false] ++ U 68) (fun L => [((L0.b 0), C6 x), ((L0.b 1), C6 y)]) hp2 ⟨
    oL 0 0 r6, oR (ref5May6P R x), oN, oM, oL 1 0 r6, oR (ref5May6P R y), oN, oP,
    trivial⟩ (fun L2 w3 hp3 => ?_)
  refine k5 _ _ ?_
  refine wp_cond_false (by kernel_rfl) ?_
  refine skips ?_
  refine k4 _ _ ?_
  refine wp_seq_k (fun K6 k6 => ?_)
  refine gs [.det (V6 x), .det (.tuple #[V6 0, .int .i64 7]), .det (.tuple #[V6 0, .int .i64 7]), .det (V6 0), .det (.int .i64 7), .alloc (C6 0), .store (.new 5) 0 (C6 0) (C6 0), .det (.int .i64 7)] [0, 1, 2, 3, 4, 5, 6, 7] [0, 1, 3, 7, 7, 0, 47, 127] (fun L => [V6 x, V6 y, pt (L0.b 0) 0, pt (L0.b 1) 0, .bool false, pt (L.b 5) 0, .int .i64 7, undef, undef, .bool true, .bool false, V6 x, .bool true, .bool false, .bool false, V6 y, .bool true, .bool false, .bool false, undef, undef, undef, undef, undef, .tuple #[V6 0, .int .i64 7], V6 x, .tuple #[V6 0, .int .i64 7], V6 0, .int .i64 7] ++ U 58) (fun L => [((L0.b 0), C6 x), ((L0.b 1), C6 y), (L.b 5, C6 0)]) hp3 ⟨
    oL 0 0 r6, oH (v := .tuple #[V6 0, .int .i64 7]) (vs := #[V6 x]) (fun w hb _ => fp6Inv0 K x w (K.stay hg hb) hn), oM, oX, oX, oZ r6, oT r6, oA,
    trivial⟩ (fun L3 w4 hp4 => ?_)
  refine k6 _ _ ?_
  refine wp_seq_k (fun K7 k7 => ?_)
  refine gs [.det (V6 x), .det (.tuple #[V6 0, .int .i64 7]), .det (.tuple #[V6 0, .int .i64 7]), .det (V6 0), .det (.int .i64 7), .alloc (C6 0), .store (.new 5) 0 (C6 0) (C6 0), .det (.int .i64 7)] [0, 1, 2, 3, 4, 5, 6, 7] [0, 1, 3, 7, 7, 0, 47, 127] (fun L => [V6 x, V6 y, pt (L0.b 0) 0, pt (L0.b 1) 0, .bool false, pt (L3.b 5) 0, .int .i64 7, pt (L.b 5) 0, .int .i64 7, .bool true, .bool false, V6 x, .bool true, .bool false, .bool false, V6 y, .bool true, .bool false, .bool false, undef, undef, undef, undef, undef, .tuple #[V6 0, .int .i64 7], V6 x, .tuple #[V6 0, .int .i64 7], V6 0, .int .i64 7, .tuple #[V6 0, .int .i64 7], V6 x, .tuple #[V6 0, .int .i64 7], V6 0, .int .i64 7] ++ U 53) (fun L => [((L0.b 0), C6 x), ((L0.b 1), C6 y), ((L3.b 5), C6 0), (L.b 5, C6 0)]) hp4 ⟨
    oL 0 0 r6, oH (v := .tuple #[V6 0, .int .i64 7]) (vs := #[V6 x]) (fun w _ _ => ref5Inv60 R x w hn), oM, oX, oX, oZ r6, oT r6, oA,
    trivial⟩ (fun L4 w5 hp5 => ?_)
  refine k7 _ _ ?_
  refine wp_seq_k (fun K8 k8 => ?_)
  refine dr [.det (V6 x), .det (V6 y), .det (V6 (x + y)), .det (V6 x), .det (V6 y), .det (V6 (x + y)), .det (.bool true), .det (.bool true), .det (V6 x), .det (V6 y), .det (V6 (x - y)), .det (V6 x), .det (V6 y), .det (V6 (x - y)), .det (.bool true), .det (.bool true), .det (.bool true), .det (V6 x), .det (V6 (-x)), .det (V6 x), .det (V6 (-x)), .det (.bool true), .det (.bool true), .det (.bool true), .det (V6 x), .det (V6 y), .det (V6 (x * y)), .det (V6 x), .det (V6 y), .det (V6 (x * y)), .det (.bool true), .det (.bool true), .det (.bool true), .det (V6 x), .det (V6 x.up), .det (V6 x), .det (V6 x.up), .det (.bool true), .det (.bool true), .det (.bool true), .det (V6 x), .det (.bool true), .det (.bool true), .det (.bool true), .det (V6 0), .det (V6 0), .det (.bool true), .det (.bool true), .det (.bool true), .det (.int .i64 7), .det (.int .i64 7), .det (.bool true), .det (.bool true), .det (.bool true)] [0, 1, 2, 3, 4, 5, 6, 7, 8, 9, 10, 11, 12, 13, 14, 15, 16, 17, 18, 19, 20, 21, 22, 23, 24, 25, 26, 27, 28, 29, 30, 31, 32, 33, 34, 35, 36, 37, 38, 39, 40, 41, 42, 43, 44, 45, 46, 47, 48, 49, 50, 51, 52, 53] [0, 0, 3, 0, 0, 31, 63, 127, 255, 255, 1023, 255, 255, 8191, 16383, 32767, 65535, 131071, 262143, 131071, 1048575, 2097151, 4194303, 8388607, 16777215, 16777215, 67108863, 16777215, 16777215, 536870911, 1073741823, 2147483647, 4294967295, 8589934591, 17179869183, 8589934591, 68719476735, 137438953471, 274877906943, 549755813887, 1099511627775, 2199023255551, 4398046511103, 8796093022207, 17592186044415, 17592186044415, 70368744177663, 140737488355327, 281474976710655, 562949953421311, 562949953421311, 2251799813685247, 4503599627370495, 9007199254740991] (fun L => [V6 x, V6 y, pt (L0.b 0) 0, pt (L0.b 1) 0, .bool true, pt (L3.b 5) 0, .int .i64 7, pt (L4.b 5) 0, .int .i64 7, .bool true, .bool false, V6 x, .bool true, .bool false, .bool false, V6 y, .bool true, .bool false, .bool false, undef, undef, undef, undef, undef, .tuple #[V6 0, .int .i64 7], V6 x, .tuple #[V6 0, .int .i64 7], V6 0, .int .i64 7, .tuple #[V6 0, .int .i64 7], V6 x, .tuple #[V6 0, .int .i64 7], V6 0, .int .i64 7, V6 x, V6 y, V6 (x + y), V6 x, V6 y, V6 (x + y), .bool true, .bool true, V6 x, V6 y, V6 (x - y), V6 x, V6 y, V6 (x - y), .bool true, .bool true, .bool true, V6 x, V6 (-x), V6 x, V6 (-x), .bool true, .bool true, .bool true, V6 x, V6 y, V6 (x * y), V6 x, V6 y, V6 (x * y), .bool true, .bool true, .bool true, V6 x, V6 x.up, V6 x, V6 x.up, .bool true, .bool true, .bool true, V6 x, .bool true, .bool true, .bool true, V6 0, V6 0, .bool true, .bool true, .bool true, .int .i64 7, .int .i64 7, .bool true, .bool true]) (fun L => [((L0.b 0), C6 x), ((L0.b 1), C6 y), ((L3.b 5), C6 0), ((L4.b 5), C6 0)]) hp5 ⟨
    oL 0 0 r6, oL 1 0 r6, oC K.stay hg (fp6Add K x y), oL 0 0 r6, oL 1 0 r6, oR (ref5Add6 R x y), oE (a := (x + y)) (b := (x + y)) q6 (yes rfl), oM, oL 0 0 r6, oL 1 0 r6,
    oC K.stay hg (fp6Sub K x y), oL 0 0 r6, oL 1 0 r6, oR (ref5Sub6 R x y), oE (a := (x - y)) (b := (x - y)) q6 (yes rfl), oP, oM, oL 0 0 r6, oC K.stay hg (fp6Neg K x),
    oL 0 0 r6, oR (ref5Neg6 R x), oE (a := (-x)) (b := (-x)) q6 (yes rfl), oP, oM, oL 0 0 r6, oL 1 0 r6, oC K.stay hg (fp6Mul K x y), oL 0 0 r6, oL 1 0 r6, oR (ref5Mul6 R x y),
    oE (a := (x * y)) (b := (x * y)) q6 (yes rfl), oP, oM, oL 0 0 r6, oC K.stay hg (fp6Up K x), oL 0 0 r6, oR (ref5Up6 R x), oE (a := x.up) (b := x.up) q6 (yes rfl),
    oP, oM, oL 0 0 r6, oC K.stay hg (fp6MayP K x), oP, oM, oL 2 0 r6, oL 3 0 r6, oE (a := 0) (b := 0) q6 (yes rfl), oP, oM, oM, oM, oJ .i64 .i64 7 7 (h := fun w => (eqlI _ _ _ _ w).trans rfl),
    oP, oA,
    trivial⟩ (fun L5 w6 hp6 => ?_)
  refine k8 _ _ ?_
  refine wp_ret ?_
  refine bodyPost_ret (v := .bool true) ?_ rfl ?_
  · exact res_t rfl (by kernel_rfl) _
  · exact ⟨rfl, hp6.bel⟩
set_option maxHeartbeats 4000000 in
theorem six3 {G : World → Prop} (K : FpK G) (R : RefK) (x y : F6) (w : World) (hg : G w) (hB : ∀ w, G w → Calls Tryd.prog 5 #[] w (Ret (.bool true) w)) (hn : x.norm ≠ 0) : Calls Tryd.prog 3 #[V6 x, V6 y] w (Ret (.bool true) w) := by
  have hp0 := Heap.start w
  go_enter Tryd.func3, Tryd.ntmps3
  refine wp_seq_k (fun K1 k1 => ?_)
  refine gs [.alloc (C6 x), .alloc (C6 y), .det (.bool false)] [0, 1, 2] [0, 0, 0] (fun L => [V6 x, V6 y, pt (L.b 0) 0, pt (L.b 1) 0, .bool false] ++ U 82) (fun L => [(L.b 0, C6 x), (L.b 1, C6 y)]) hp0 ⟨
    oB, oB, oA,
    trivial⟩ (fun L0 w1 hp1 => ?_)
  refine k1 _ _ ?_
  refine wp_seq_k (fun K2 k2 => ?_)
  refine wp_seq_k (fun K3 k3 => ?_)
  refine gs [.det (.bool true), .det (.bool false)] [0, 1] [0, 1] (fun L => [V6 x, V6 y, pt (L0.b 0) 0, pt (L0.b 1) 0, .bool false, undef, undef, undef, undef, .bool true, .bool false] ++ U 76) (fun L => [((L0.b 0), C6 x), ((L0.b 1), C6 y)]) hp1 ⟨
    oC K.stay hg hB, oN,
    trivial⟩ (fun L1 w2 hp2 => ?_)
  refine k3 _ _ ?_
  refine wp_cond_false (by kernel_rfl) ?_
  refine skips ?_
  refine k2 _ _ ?_
  refine wp_seq_k (fun K4 k4 => ?_)
  refine wp_seq_k (fun K5 k5 => ?_)
  refine gs [.det (V6 x), .det (.bool true), .det (.bool false), .det (.bool false), .det (V6 y), .det (.bool true), .det (.bool false), .det (.bool false)] [0, 1, 2, 3, 4, 5, 6, 7] [0, 1, 3, 7, 15, 31, 63, 127] (fun L => [V6 x, V6 y, pt (L0.b 0) 0, pt (L0.b 1) 0, .bool false, undef, undef, undef, undef, .bool true, .bool false, V6 x, .bool true, .bool false, .bool false, V6 y, .bool true, .bool false, .bool false] ++ U 68) (fun L => [((L0.b 0), C6 x), ((L0.b 1), C6 y)]) hp2 ⟨
    oL 0 0 r6, oR (ref5May6P R x), oN, oM, oL 1 0 r6, oR (ref5May6P R y), oN, oP,
    trivial⟩ (fun L2 w3 hp3 => ?_)
  refine k5 _ _ ?_
  refine wp_cond_false (by kernel_rfl) ?_
  refine skips ?_
  refine k4 _ _ ?_
  refine wp_seq_k (fun K6 k6 => ?_)
  refine gs [.det (V6 x), .det (.tuple #[V6 x.inv, .int .i64 0]), .det (.tuple #[V6 x.inv, .int .i64 0]), .det (V6 x.inv), .det (.int .i64 0), .alloc (C6 0), .store (.new 5) 0 (C6 x.inv) (C6 x.inv), .det (.int .i64 0)] [0, 1, 2, 3, 4, 5, 6, 7] [0, 1, 3, 7, 7, 0, 47, 127] (fun L => [V6 x, V6 y, pt (L0.b 0) 0, pt (L0.b 1) 0, .bool false, pt (L.b 5) 0, .int .i64 0, undef, undef, .bool true, .bool false, V6 x, .bool true, .bool false, .bool false, V6 y, .bool true, .bool false, .bool false, undef, undef, undef, undef, undef, .tuple #[V6 x.inv, .int .i64 0], V6 x, .tuple #[V6 x.inv, .int .i64 0], V6 x.inv, .int .i64 0] ++ U 58) (fun L => [((L0.b 0), C6 x), ((L0.b 1), C6 y), (L.b 5, C6 x.inv)]) hp3 ⟨
    oL 0 0 r6, oH (v := .tuple #[V6 x.inv, .int .i64 0]) (vs := #[V6 x]) (fun w hb _ => fp6Inv K x w (K.stay hg hb) hn), oM, oX, oX, oZ r6, oT r6, oA,
    trivial⟩ (fun L3 w4 hp4 => ?_)
  refine k6 _ _ ?_
  refine wp_seq_k (fun K7 k7 => ?_)
  refine gs [.det (V6 x), .det (.tuple #[V6 x.inv, .int .i64 0]), .det (.tuple #[V6 x.inv, .int .i64 0]), .det (V6 x.inv), .det (.int .i64 0), .alloc (C6 0), .store (.new 5) 0 (C6 x.inv) (C6 x.inv), .det (.int .i64 0)] [0, 1, 2, 3, 4, 5, 6, 7] [0, 1, 3, 7, 7, 0, 47, 127] (fun L => [V6 x, V6 y, pt (L0.b 0) 0, pt (L0.b 1) 0, .bool false, pt (L3.b 5) 0, .int .i64 0, pt (L.b 5) 0, .int .i64 0, .bool true, .bool false, V6 x, .bool true, .bool false, .bool false, V6 y, .bool true, .bool false, .bool false, undef, undef, undef, undef, undef, .tuple #[V6 x.inv, .int .i64 0], V6 x, .tuple #[V6 x.inv, .int .i64 0], V6 x.inv, .int .i64 0, .tuple #[V6 x.inv, .int .i64 0], V6 x, .tuple #[V6 x.inv, .int .i64 0], V6 x.inv, .int .i64 0] ++ U 53) (fun L => [((L0.b 0), C6 x), ((L0.b 1), C6 y), ((L3.b 5), C6 x.inv), (L.b 5, C6 x.inv)]) hp4 ⟨
    oL 0 0 r6, oH (v := .tuple #[V6 x.inv, .int .i64 0]) (vs := #[V6 x]) (fun w _ _ => ref5Inv6 R x w hn), oM, oX, oX, oZ r6, oT r6, oA,
    trivial⟩ (fun L4 w5 hp5 => ?_)
  refine k7 _ _ ?_
  refine wp_seq_k (fun K8 k8 => ?_)
  refine dr [.det (V6 x), .det (V6 y), .det (V6 (x + y)), .det (V6 x), .det (V6 y), .det (V6 (x + y)), .det (.bool true), .det (.bool true), .det (V6 x), .det (V6 y), .det (V6 (x - y)), .det (V6 x), .det (V6 y), .det (V6 (x - y)), .det (.bool true), .det (.bool true), .det (.bool true), .det (V6 x), .det (V6 (-x)), .det (V6 x), .det (V6 (-x)), .det (.bool true), .det (.bool true), .det (.bool true), .det (V6 x), .det (V6 y), .det (V6 (x * y)), .det (V6 x), .det (V6 y), .det (V6 (x * y)), .det (.bool true), .det (.bool true), .det (.bool true), .det (V6 x), .det (V6 x.up), .det (V6 x), .det (V6 x.up), .det (.bool true), .det (.bool true), .det (.bool true), .det (V6 x), .det (.bool true), .det (.bool true), .det (.bool true), .det (V6 x.inv), .det (V6 x.inv), .det (.bool true), .det (.bool true), .det (.bool true), .det (.int .i64 0), .det (.int .i64 0), .det (.bool true), .det (.bool true), .det (.bool true)] [0, 1, 2, 3, 4, 5, 6, 7, 8, 9, 10, 11, 12, 13, 14, 15, 16, 17, 18, 19, 20, 21, 22, 23, 24, 25, 26, 27, 28, 29, 30, 31, 32, 33, 34, 35, 36, 37, 38, 39, 40, 41, 42, 43, 44, 45, 46, 47, 48, 49, 50, 51, 52, 53] [0, 0, 3, 0, 0, 31, 63, 127, 255, 255, 1023, 255, 255, 8191, 16383, 32767, 65535, 131071, 262143, 131071, 1048575, 2097151, 4194303, 8388607, 16777215, 16777215, 67108863, 16777215, 16777215, 536870911, 1073741823, 2147483647, 4294967295, 8589934591, 17179869183, 8589934591, 68719476735, 137438953471, 274877906943, 549755813887, 1099511627775, 2199023255551, 4398046511103, 8796093022207, 17592186044415, 17592186044415, 70368744177663, 140737488355327, 281474976710655, 562949953421311, 562949953421311, 2251799813685247, 4503599627370495, 9007199254740991] (fun L => [V6 x, V6 y, pt (L0.b 0) 0, pt (L0.b 1) 0, .bool true, pt (L3.b 5) 0, .int .i64 0, pt (L4.b 5) 0, .int .i64 0, .bool true, .bool false, V6 x, .bool true, .bool false, .bool false, V6 y, .bool true, .bool false, .bool false, undef, undef, undef, undef, undef, .tuple #[V6 x.inv, .int .i64 0], V6 x, .tuple #[V6 x.inv, .int .i64 0], V6 x.inv, .int .i64 0, .tuple #[V6 x.inv, .int .i64 0], V6 x, .tuple #[V6 x.inv, .int .i64 0], V6 x.inv, .int .i64 0, V6 x, V6 y, V6 (x + y), V6 x, V6 y, V6 (x + y), .bool true, .bool true, V6 x, V6 y, V6 (x - y), V6 x, V6 y, V6 (x - y), .bool true, .bool true, .bool true, V6 x, V6 (-x), V6 x, V6 (-x), .bool true, .bool true, .bool true, V6 x, V6 y, V6 (x * y), V6 x, V6 y, V6 (x * y), .bool true, .bool true, .bool true, V6 x, V6 x.up, V6 x, V6 x.up, .bool true, .bool true, .bool true, V6 x, .bool true, .bool true, .bool true, V6 x.inv, V6 x.inv, .bool true, .bool true, .bool true, .int .i64 0, .int .i64 0, .bool true, .bool true]) (fun L => [((L0.b 0), C6 x), ((L0.b 1), C6 y), ((L3.b 5), C6 x.inv), ((L4.b 5), C6 x.inv)]) hp5 ⟨
    oL 0 0 r6, oL 1 0 r6, oC K.stay hg (fp6Add K x y), oL 0 0 r6, oL 1 0 r6, oR (ref5Add6 R x y), oE (a := (x + y)) (b := (x + y)) q6 (yes rfl), oM, oL 0 0 r6, oL 1 0 r6,
    oC K.stay hg (fp6Sub K x y), oL 0 0 r6, oL 1 0 r6, oR (ref5Sub6 R x y), oE (a := (x - y)) (b := (x - y)) q6 (yes rfl), oP, oM, oL 0 0 r6, oC K.stay hg (fp6Neg K x),
    oL 0 0 r6, oR (ref5Neg6 R x), oE (a := (-x)) (b := (-x)) q6 (yes rfl), oP, oM, oL 0 0 r6, oL 1 0 r6, oC K.stay hg (fp6Mul K x y), oL 0 0 r6, oL 1 0 r6, oR (ref5Mul6 R x y),
    oE (a := (x * y)) (b := (x * y)) q6 (yes rfl), oP, oM, oL 0 0 r6, oC K.stay hg (fp6Up K x), oL 0 0 r6, oR (ref5Up6 R x), oE (a := x.up) (b := x.up) q6 (yes rfl),
    oP, oM, oL 0 0 r6, oC K.stay hg (fp6MayP K x), oP, oM, oL 2 0 r6, oL 3 0 r6, oE (a := x.inv) (b := x.inv) q6 (yes rfl), oP, oM, oM, oM, oJ .i64 .i64 0 0 (h := fun w => (eqlI _ _ _ _ w).trans rfl),
    oP, oA,
    trivial⟩ (fun L5 w6 hp6 => ?_)
  refine k8 _ _ ?_
  refine wp_ret ?_
  refine bodyPost_ret (v := .bool true) ?_ rfl ?_
  · exact res_t rfl (by kernel_rfl) _
  · exact ⟨rfl, hp6.bel⟩
/-- What Fp6All answers. -/
theorem fp6All_walk {G : World → Prop} (K : FpK G) (R : RefK) (f g f2 g2 f3 g3 f4 g4 f5 g5 f6 g6 : Nat → Int) (rf : Rg f 6) (rg : Rg g 6) (rf2 : Rg f2 6) (rg2 : Rg g2 6) (rf3 : Rg f3 6) (rg3 : Rg g3 6) (rf4 : Rg f4 6) (rg4 : Rg g4 6) (rf5 : Rg f5 6) (rg5 : Rg g5 6) (rf6 : Rg f6 6) (rg6 : Rg g6 6) (w : World) (hg : G w) :
    Calls Tryd.prog 3 #[QV6 f g f2 g2 f3 g3, QV6 f4 g4 f5 g5 f6 g6] w (Ret (.bool true) w) := by
  have hB := fun w hg => begun6 K w hg
  rcases three_or K R f g f2 g2 f3 g3 rf rg rf2 rg2 rf3 rg3 with ⟨⟨x, hx⟩, h1, h2⟩ | ⟨h1, h2⟩
  · rcases three_or K R f4 g4 f5 g5 f6 g6 rf4 rg4 rf5 rg5 rf6 rg6 with ⟨⟨y, hy⟩, h3, h4⟩ | ⟨h3, h4⟩
    · rw [hx, hy]
      by_cases hn : x.norm = 0
      · exact six2 K R x y w hg hB hn
      · exact six3 K R x y w hg hB hn
    · exact six1 K R f g f2 g2 f3 g3 f4 g4 f5 g5 f6 g6 w hg hB h1 h2 h3
  · exact six0 K R f g f2 g2 f3 g3 f4 g4 f5 g5 f6 g6 w hg hB h1 h2
end Go.Proofs.YtmegifgpkdigmaaDoor.fpn

/- Fp6Field walked. -/
namespace Go.Proofs.YtmegifgpkdigmaaDoor.fpn
open Go.RowKit Pl
set_option linter.unusedVariables false
set_option linter.unusedSimpArgs false
set_option maxRecDepth 4000

set_option maxHeartbeats 4000000 in
theorem sixf0 {G : World → Prop} (K : FpK G) (R : RefK) (f g f2 g2 f3 g3 f4 g4 f5 g5 f6 g6 f7 g7 f8 g8 f9 g9 : Nat → Int) (w : World) (hg : G w) (hB : ∀ w, G w → Calls Tryd.prog 5 #[] w (Ret (.bool true) w)) (hm : ∀ w, G w → Calls Tryd.prog 6 #[QV6 f g f2 g2 f3 g3] w (Ret (.bool false) w)) : Calls Tryd.prog 4 #[QV6 f g f2 g2 f3 g3, QV6 f4 g4 f5 g5 f6 g6, QV6 f7 g7 f8 g8 f9 g9] w (Ret (.bool true) w) := by
  have hp0 := Heap.start w
  go_enter Tryd.func4, Tryd.ntmps4
  refine wp_seq_k (fun K1 k1 => ?_)
  refine gs [.alloc (QC6 f g f2 g2 f3 g3), .alloc (QC6 f4 g4 f5 g5 f6 g6), .alloc (QC6 f7 g7 f8 g8 f9 g9), .det (.bool false)] [0, 1, 2, 3] [0, 0, 0, 0] (fun L => [QV6 f g f2 g2 f3 g3, QV6 f4 g4 f5 g5 f6 g6, QV6 f7 g7 f8 g8 f9 g9, pt (L.b 0) 0, pt (L.b 1) 0, pt (L.b 2) 0, .bool false] ++ U 106) (fun L => [(L.b 0, QC6 f g f2 g2 f3 g3), (L.b 1, QC6 f4 g4 f5 g5 f6 g6), (L.b 2, QC6 f7 g7 f8 g8 f9 g9)]) hp0 ⟨
    oB, oB, oB, oA,
    trivial⟩ (fun L0 w1 hp1 => ?_)
  refine k1 _ _ ?_
  refine wp_seq_k (fun K2 k2 => ?_)
  refine wp_seq_k (fun K3 k3 => ?_)
  refine gs [.det (.bool true), .det (.bool false)] [0, 1] [0, 1] (fun L => [QV6 f g f2 g2 f3 g3, QV6 f4 g4 f5 g5 f6 g6, QV6 f7 g7 f8 g8 f9 g9, pt (L0.b 0) 0, pt (L0.b 1) 0, pt (L0.b 2) 0, .bool false, undef, undef, undef, undef, .bool true, .bool false] ++ U 100) (fun L => [((L0.b 0), QC6 f g f2 g2 f3 g3), ((L0.b 1), QC6 f4 g4 f5 g5 f6 g6), ((L0.b 2), QC6 f7 g7 f8 g8 f9 g9)]) hp1 ⟨
    oC K.stay hg hB, oN,
    trivial⟩ (fun L1 w2 hp2 => ?_)
  refine k3 _ _ ?_
  refine wp_cond_false (by kernel_rfl) ?_
  refine skips ?_
  refine k2 _ _ ?_
  refine wp_seq_k (fun K4 k4 => ?_)
  refine wp_seq_k (fun K5 k5 => ?_)
  refine gs [.det (QV6 f g f2 g2 f3 g3), .det (.bool false), .det (.bool true), .det (.bool true), .det undef, .det undef, .det undef, .det (.bool true), .det (.bool true), .det undef, .det undef, .det undef, .det (.bool true)] [0, 1, 2, 3, 4, 5, 6, 7, 8, 9, 10, 11, 12] [0, 1, 3, 7, 15, 31, 63, 127, 255, 511, 1023, 2047, 4095] (fun L => [QV6 f g f2 g2 f3 g3, QV6 f4 g4 f5 g5 f6 g6, QV6 f7 g7 f8 g8 f9 g9, pt (L0.b 0) 0, pt (L0.b 1) 0, pt (L0.b 2) 0, .bool false, undef, undef, undef, undef, .bool true, .bool false, QV6 f g f2 g2 f3 g3, .bool false, .bool true, .bool true, undef, undef, undef, .bool true, .bool true, undef, undef, undef, .bool true] ++ U 87) (fun L => [((L0.b 0), QC6 f g f2 g2 f3 g3), ((L0.b 1), QC6 f4 g4 f5 g5 f6 g6), ((L0.b 2), QC6 f7 g7 f8 g8 f9 g9)]) hp2 ⟨
    oL 0 0 r6, oC K.stay hg hm, oN, oM, oS, oS, oS, oP, oM, oS, oS, oS, oP,
    trivial⟩ (fun L2 w3 hp3 => ?_)
  refine k5 _ _ ?_
  refine wp_cond_true (by kernel_rfl) ?_
  refine wp_seq_k (fun K6 k6 => ?_)
  refine gs [.det (.bool true)] [0] [0] (fun L => [QV6 f g f2 g2 f3 g3, QV6 f4 g4 f5 g5 f6 g6, QV6 f7 g7 f8 g8 f9 g9, pt (L0.b 0) 0, pt (L0.b 1) 0, pt (L0.b 2) 0, .bool true, undef, undef, undef, undef, .bool true, .bool false, QV6 f g f2 g2 f3 g3, .bool false, .bool true, .bool true, undef, undef, undef, .bool true, .bool true, undef, undef, undef, .bool true] ++ U 87) (fun L => [((L0.b 0), QC6 f g f2 g2 f3 g3), ((L0.b 1), QC6 f4 g4 f5 g5 f6 g6), ((L0.b 2), QC6 f7 g7 f8 g8 f9 g9)]) hp3 ⟨
    oA,
    trivial⟩ (fun L3 w4 hp4 => ?_)
  refine k6 _ _ ?_
  refine wp_ret ?_
  refine bodyPost_ret (v := .bool true) ?_ rfl ?_
  · exact res_t rfl (by kernel_rfl) _
  · exact ⟨rfl, hp4.bel⟩
set_option maxHeartbeats 4000000 in
theorem sixf1 {G : World → Prop} (K : FpK G) (R : RefK) (f g f2 g2 f3 g3 f4 g4 f5 g5 f6 g6 f7 g7 f8 g8 f9 g9 : Nat → Int) (w : World) (hg : G w) (hB : ∀ w, G w → Calls Tryd.prog 5 #[] w (Ret (.bool true) w)) (hm : ∀ w, G w → Calls Tryd.prog 6 #[QV6 f g f2 g2 f3 g3] w (Ret (.bool true) w)) (hm2 : ∀ w, G w → Calls Tryd.prog 6 #[QV6 f4 g4 f5 g5 f6 g6] w (Ret (.bool false) w)) : Calls Tryd.prog 4 #[QV6 f g f2 g2 f3 g3, QV6 f4 g4 f5 g5 f6 g6, QV6 f7 g7 f8 g8 f9 g9] w (Ret (.bool true) w) := by
  have hp0 := Heap.start w
  go_enter Tryd.func4, Tryd.ntmps4
  refine wp_seq_k (fun K1 k1 => ?_)
  refine gs [.alloc (QC6 f g f2 g2 f3 g3), .alloc (QC6 f4 g4 f5 g5 f6 g6), .alloc (QC6 f7 g7 f8 g8 f9 g9), .det (.bool false)] [0, 1, 2, 3] [0, 0, 0, 0] (fun L => [QV6 f g f2 g2 f3 g3, QV6 f4 g4 f5 g5 f6 g6, QV6 f7 g7 f8 g8 f9 g9, pt (L.b 0) 0, pt (L.b 1) 0, pt (L.b 2) 0, .bool false] ++ U 106) (fun L => [(L.b 0, QC6 f g f2 g2 f3 g3), (L.b 1, QC6 f4 g4 f5 g5 f6 g6), (L.b 2, QC6 f7 g7 f8 g8 f9 g9)]) hp0 ⟨
    oB, oB, oB, oA,
    trivial⟩ (fun L0 w1 hp1 => ?_)
  refine k1 _ _ ?_
  refine wp_seq_k (fun K2 k2 => ?_)
  refine wp_seq_k (fun K3 k3 => ?_)
  refine gs [.det (.bool true), .det (.bool false)] [0, 1] [0, 1] (fun L => [QV6 f g f2 g2 f3 g3, QV6 f4 g4 f5 g5 f6 g6, QV6 f7 g7 f8 g8 f9 g9, pt (L0.b 0) 0, pt (L0.b 1) 0, pt (L0.b 2) 0, .bool false, undef, undef, undef, undef, .bool true, .bool false] ++ U 100) (fun L => [((L0.b 0), QC6 f g f2 g2 f3 g3), ((L0.b 1), QC6 f4 g4 f5 g5 f6 g6), ((L0.b 2), QC6 f7 g7 f8 g8 f9 g9)]) hp1 ⟨
    oC K.stay hg hB, oN,
    trivial⟩ (fun L1 w2 hp2 => ?_)
  refine k3 _ _ ?_
  refine wp_cond_false (by kernel_rfl) ?_
  refine skips ?_
  refine k2 _ _ ?_
  refine wp_seq_k (fun K4 k4 => ?_)
  refine wp_seq_k (fun K5 k5 => ?_)
  refine gs [.det (QV6 f g f2 g2 f3 g3), .det (.bool true), .det (.bool false), .det (.bool false), .det (QV6 f4 g4 f5 g5 f6 g6), .det (.bool false), .det (.bool true), .det (.bool true), .det (.bool true), .det undef, .det undef, .det undef, .det (.bool true)] [0, 1, 2, 3, 4, 5, 6, 7, 8, 9, 10, 11, 12] [0, 1, 3, 7, 15, 31, 63, 127, 255, 511, 1023, 2047, 4095] (fun L => [QV6 f g f2 g2 f3 g3, QV6 f4 g4 f5 g5 f6 g6, QV6 f7 g7 f8 g8 f9 g9, pt (L0.b 0) 0, pt (L0.b 1) 0, pt (L0.b 2) 0, .bool false, undef, undef, undef, undef, .bool true, .bool false, QV6 f g f2 g2 f3 g3, .bool true, .bool false, .bool false, QV6 f4 g4 f5 g5 f6 g6, .bool false, .bool true, .bool true, .bool true, undef, undef, undef, .bool true] ++ U 87) (fun L => [((L0.b 0), QC6 f g f2 g2 f3 g3), ((L0.b 1), QC6 f4 g4 f5 g5 f6 g6), ((L0.b 2), QC6 f7 g7 f8 g8 f9 g9)]) hp2 ⟨
    oL 0 0 r6, oC K.stay hg hm, oN, oM, oL 1 0 r6, oC K.stay hg hm2, oN, oP, oM, oS, oS, oS, oP,
    trivial⟩ (fun L2 w3 hp3 => ?_)
  refine k5 _ _ ?_
  refine wp_cond_true (by kernel_rfl) ?_
  refine wp_seq_k (fun K6 k6 => ?_)
  refine gs [.det (.bool true)] [0] [0] (fun L => [QV6 f g f2 g2 f3 g3, QV6 f4 g4 f5 g5 f6 g6, QV6 f7 g7 f8 g8 f9 g9, pt (L0.b 0) 0, pt (L0.b 1) 0, pt (L0.b 2) 0, .bool true, undef, undef, undef, undef, .bool true, .bool false, QV6 f g f2 g2 f3 g3, .bool true, .bool false, .bool false, QV6 f4 g4 f5 g5 f6 g6, .bool false, .bool true, .bool true, .bool true, undef, undef, undef, .bool true] ++ U 87) (fun L => [((L0.b 0), QC6 f g f2 g2 f3 g3), ((L0.b 1), QC6 f4 g4 f5 g5 f6 g6), ((L0.b 2), QC6 f7 g7 f8 g8 f9 g9)]) hp3 ⟨
    oA,
    trivial⟩ (fun L3 w4 hp4 => ?_)
  refine k6 _ _ ?_
  refine wp_ret ?_
  refine bodyPost_ret (v := .bool true) ?_ rfl ?_
  · exact res_t rfl (by kernel_rfl) _
  · exact ⟨rfl, hp4.bel⟩
set_option maxHeartbeats 4000000 in
theorem sixf2 {G : World → Prop} (K : FpK G) (R : RefK) (f g f2 g2 f3 g3 f4 g4 f5 g5 f6 g6 f7 g7 f8 g8 f9 g9 : Nat → Int) (w : World) (hg : G w) (hB : ∀ w, G w → Calls Tryd.prog 5 #[] w (Ret (.bool true) w)) (hm : ∀ w, G w → Calls Tryd.prog 6 #[QV6 f g f2 g2 f3 g3] w (Ret (.bool true) w)) (hm2 : ∀ w, G w → Calls Tryd.prog 6 #[QV6 f4 g4 f5 g5 f6 g6] w (Ret (.bool true) w)) (hm3 : ∀ w, G w → Calls Tryd.prog 6 #[QV6 f7 g7 f8 g8 f9 g9] w (Ret (.bool false) w)) : Calls Tryd.prog 4 #[QV6 f g f2 g2 f3 g3, QV6 f4 g4 f5 g5 f6 g6, QV6 f7 g7 f8 g8 f9 g9] w (Ret (.bool true) w) := by
  have hp0 := Heap.start w
  go_enter Tryd.func4, Tryd.ntmps4
  refine wp_seq_k (fun K1 k1 => ?_)
  refine gs [.alloc (QC6 f g f2 g2 f3 g3), .alloc (QC6 f4 g4 f5 g5 f6 g6), .alloc (QC6 f7 g7 f8 g8 f9 g9), .det (.bool false)] [0, 1, 2, 3] [0, 0, 0, 0] (fun L => [QV6 f g f2 g2 f3 g3, QV6 f4 g4 f5 g5 f6 g6, QV6 f7 g7 f8 g8 f9 g9, pt (L.b 0) 0, pt (L.b 1) 0, pt (L.b 2) 0, .bool false] ++ U 106) (fun L => [(L.b 0, QC6 f g f2 g2 f3 g3), (L.b 1, QC6 f4 g4 f5 g5 f6 g6), (L.b 2, QC6 f7 g7 f8 g8 f9 g9)]) hp0 ⟨
    oB, oB, oB, oA,
    trivial⟩ (fun L0 w1 hp1 => ?_)
  refine k1 _ _ ?_
  refine wp_seq_k (fun K2 k2 => ?_)
  refine wp_seq_k (fun K3 k3 => ?_)
  refine gs [.det (.bool true), .det (.bool false)] [0, 1] [0, 1] (fun L => [QV6 f g f2 g2 f3 g3, QV6 f4 g4 f5 g5 f6 g6, QV6 f7 g7 f8 g8 f9 g9, pt (L0.b 0) 0, pt (L0.b 1) 0, pt (L0.b 2) 0, .bool false, undef, undef, undef, undef, .bool true, .bool false] ++ U 100) (fun L => [((L0.b 0), QC6 f g f2 g2 f3 g3), ((L0.b 1), QC6 f4 g4 f5 g5 f6 g6), ((L0.b 2), QC6 f7 g7 f8 g8 f9 g9)]) hp1 ⟨
    oC K.stay hg hB, oN,
    trivial⟩ (fun L1 w2 hp2 => ?_)
  refine k3 _ _ ?_
  refine wp_cond_false (by kernel_rfl) ?_
  refine skips ?_
  refine k2 _ _ ?_
  refine wp_seq_k (fun K4 k4 => ?_)
  refine wp_seq_k (fun K5 k5 => ?_)
  refine gs [.det (QV6 f g f2 g2 f3 g3), .det (.bool true), .det (.bool false), .det (.bool false), .det (QV6 f4 g4 f5 g5 f6 g6), .det (.bool true), .det (.bool false), .det (.bool false), .det (.bool false), .det (QV6 f7 g7 f8 g8 f9 g9), .det (.bool false), .det (.bool true), .det (.bool true)] [0, 1, 2, 3, 4, 5, 6, 7, 8, 9, 10, 11, 12] [0, 1, 3, 7, 15, 31, 63, 127, 255, 511, 1023, 2047, 4095] (fun L => [QV6 f g f2 g2 f3 g3, QV6 f4 g4 f5 g5 f6 g6, QV6 f7 g7 f8 g8 f9 g9, pt (L0.b 0) 0, pt (L0.b 1) 0, pt (L0.b 2) 0, .bool false, undef, undef, undef, undef, .bool true, .bool false, QV6 f g f2 g2 f3 g3, .bool true, .bool false, .bool false, QV6 f4 g4 f5 g5 f6 g6, .bool true, .bool false, .bool false, .bool false, QV6 f7 g7 f8 g8 f9 g9, .bool false, .bool true, .bool true] ++ U 87) (fun L => [((L0.b 0), QC6 f g f2 g2 f3 g3), ((L0.b 1), QC6 f4 g4 f5 g5 f6 g6), ((L0.b 2), QC6 f7 g7 f8 g8 f9 g9)]) hp2 ⟨
    oL 0 0 r6, oC K.stay hg hm, oN, oM, oL 1 0 r6, oC K.stay hg hm2, oN, oP, oM, oL 2 0 r6, oC K.stay hg hm3, oN, oP,
    trivial⟩ (fun L2 w3 hp3 => ?_)
  refine k5 _ _ ?_
  refine wp_cond_true (by kernel_rfl) ?_
  refine wp_seq_k (fun K6 k6 => ?_)
  refine gs [.det (.bool true)] [0] [0] (fun L => [QV6 f g f2 g2 f3 g3, QV6 f4 g4 f5 g5 f6 g6, QV6 f7 g7 f8 g8 f9 g9, pt (L0.b 0) 0, pt (L0.b 1) 0, pt (L0.b 2) 0, .bool true, undef, undef, undef, undef, .bool true, .bool false, QV6 f g f2 g2 f3 g3, .bool true, .bool false, .bool false, QV6 f4 g4 f5 g5 f6 g6, .bool true, .bool false, .bool false, .bool false, QV6 f7 g7 f8 g8 f9 g9, .bool false, .bool true, .bool true] ++ U 87) (fun L => [((L0.b 0), QC6 f g f2 g2 f3 g3), ((L0.b 1), QC6 f4 g4 f5 g5 f6 g6), ((L0.b 2), QC6 f7 g7 f8 g8 f9 g9)]) hp3 ⟨
    oA,
    trivial⟩ (fun L3 w4 hp4 => ?_)
  refine k6 _ _ ?_
  refine wp_ret ?_
  refine bodyPost_ret (v := .bool true) ?_ rfl ?_
  · exact res_t rfl (by kernel_rfl) _
  · exact ⟨rfl, hp4.bel⟩
theorem F6.vt3 : (⟨0, ⟨1, 0⟩, 0⟩ : F6) * ⟨0, ⟨1, 0⟩, 0⟩ * ⟨0, ⟨1, 0⟩, 0⟩ = ⟨⟨1, 1⟩, 0, 0⟩ := by kernel_rfl
set_option maxHeartbeats 4000000 in
theorem sixf3 {G : World → Prop} (K : FpK G) (R : RefK) (x y z v : F6) (w : World) (hg : G w) (hB : ∀ w, G w → Calls Tryd.prog 5 #[] w (Ret (.bool true) w)) (hv : ⟨0, ⟨1, 0⟩, 0⟩ = v) (hu : x.up = x * v) (h3 : v * v * v = ⟨⟨1, 1⟩, 0, 0⟩) (hx : x = 0) : Calls Tryd.prog 4 #[V6 x, V6 y, V6 z] w (Ret (.bool true) w) := by
  have hp0 := Heap.start w
  go_enter Tryd.func4, Tryd.ntmps4
  refine wp_seq_k (fun K1 k1 => ?_)
  refine gs [.alloc (C6 x), .alloc (C6 y), .alloc (C6 z), .det (.bool false)] [0, 1, 2, 3] [0, 0, 0, 0] (fun L => [V6 x, V6 y, V6 z, pt (L.b 0) 0, pt (L.b 1) 0, pt (L.b 2) 0, .bool false] ++ U 106) (fun L => [(L.b 0, C6 x), (L.b 1, C6 y), (L.b 2, C6 z)]) hp0 ⟨
    oB, oB, oB, oA,
    trivial⟩ (fun L0 w1 hp1 => ?_)
  refine k1 _ _ ?_
  refine wp_seq_k (fun K2 k2 => ?_)
  refine wp_seq_k (fun K3 k3 => ?_)
  refine gs [.det (.bool true), .det (.bool false)] [0, 1] [0, 1] (fun L => [V6 x, V6 y, V6 z, pt (L0.b 0) 0, pt (L0.b 1) 0, pt (L0.b 2) 0, .bool false, undef, undef, undef, undef, .bool true, .bool false] ++ U 100) (fun L => [((L0.b 0), C6 x), ((L0.b 1), C6 y), ((L0.b 2), C6 z)]) hp1 ⟨
    oC K.stay hg hB, oN,
    trivial⟩ (fun L1 w2 hp2 => ?_)
  refine k3 _ _ ?_
  refine wp_cond_false (by kernel_rfl) ?_
  refine skips ?_
  refine k2 _ _ ?_
  refine wp_seq_k (fun K4 k4 => ?_)
  refine wp_seq_k (fun K5 k5 => ?_)
  refine gs [.det (V6 x), .det (.bool true), .det (.bool false), .det (.bool false), .det (V6 y), .det (.bool true), .det (.bool false), .det (.bool false), .det (.bool false), .det (V6 z), .det (.bool true), .det (.bool false), .det (.bool false)] [0, 1, 2, 3, 4, 5, 6, 7, 8, 9, 10, 11, 12] [0, 1, 3, 7, 15, 31, 63, 127, 255, 511, 1023, 2047, 4095] (fun L => [V6 x, V6 y, V6 z, pt (L0.b 0) 0, pt (L0.b 1) 0, pt (L0.b 2) 0, .bool false, undef, undef, undef, undef, .bool true, .bool false, V6 x, .bool true, .bool false, .bool false, V6 y, .bool true, .bool false, .bool false, .bool false, V6 z, .bool true, .bool false, .bool false] ++ U 87) (fun L => [((L0.b 0), C6 x), ((L0.b 1), C6 y), ((L0.b 2), C6 z)]) hp2 ⟨
    oL 0 0 r6, oR (ref5May6P R x), oN, oM, oL 1 0 r6, oR (ref5May6P R y), oN, oP, oM, oL 2 0 r6, oR (ref5May6P R z), oN, oP,
    trivial⟩ (fun L2 w3 hp3 => ?_)
  refine k5 _ _ ?_
  refine wp_cond_false (by kernel_rfl) ?_
  refine skips ?_
  refine k4 _ _ ?_
  refine wp_seq_k (fun K6 k6 => ?_)
  refine gs [.det (V6 x), .det (.tuple #[V6 0, .int .i64 7]), .det (.tuple #[V6 0, .int .i64 7]), .det (V6 0), .det (.int .i64 7), .alloc (C6 0), .store (.new 5) 0 (C6 0) (C6 0), .det (.int .i64 7)] [0, 1, 2, 3, 4, 5, 6, 7] [0, 1, 3, 7, 7, 0, 47, 127] (fun L => [V6 x, V6 y, V6 z, pt (L0.b 0) 0, pt (L0.b 1) 0, pt (L0.b 2) 0, .bool false, pt (L.b 5) 0, .int .i64 7, undef, undef, .bool true, .bool false, V6 x, .bool true, .bool false, .bool false, V6 y, .bool true, .bool false, .bool false, .bool false, V6 z, .bool true, .bool false, .bool false, .tuple #[V6 0, .int .i64 7], V6 x, .tuple #[V6 0, .int .i64 7], V6 0, .int .i64 7] ++ U 82) (fun L => [((L0.b 0), C6 x), ((L0.b 1), C6 y), ((L0.b 2), C6 z), (L.b 5, C6 0)]) hp3 ⟨
    oL 0 0 r6, oH (v := .tuple #[V6 0, .int .i64 7]) (vs := #[V6 x]) (fun w hb _ => fp6Inv0 K x w (K.stay hg hb) (by rw [hx]; exact F6.norm_of_zero)), oM, oX, oX,
    oZ r6, oT r6, oA,
    trivial⟩ (fun L3 w4 hp4 => ?_)
  refine k6 _ _ ?_
  refine wp_seq_k (fun K7 k7 => ?_)
  refine gs [.det (PV 0), .det (FV 1), .det (PV ⟨1, 0⟩), .det (V6 ⟨0, ⟨1, 0⟩, 0⟩), .alloc (C6 0), .store (.new 4) 0 (C6 ⟨0, ⟨1, 0⟩, 0⟩) (C6 v)] [0, 1, 2, 3, 4, 5] [0, 0, 2, 7, 0, 31] (fun L => [V6 x, V6 y, V6 z, pt (L0.b 0) 0, pt (L0.b 1) 0, pt (L0.b 2) 0, .bool false, pt (L3.b 5) 0, .int .i64 7, pt (L.b 4) 0, undef, .bool true, .bool false, V6 x, .bool true, .bool false, .bool false, V6 y, .bool true, .bool false, .bool false, .bool false, V6 z, .bool true, .bool false, .bool false, .tuple #[V6 0, .int .i64 7], V6 x, .tuple #[V6 0, .int .i64 7], V6 0, .int .i64 7, PV 0, FV 1, PV ⟨1, 0⟩, V6 ⟨0, ⟨1, 0⟩, 0⟩] ++ U 78) (fun L => [((L0.b 0), C6 x), ((L0.b 1), C6 y), ((L0.b 2), C6 z), ((L3.b 5), C6 0), (L.b 4, C6 v)]) hp4 ⟨
    oD buildP0, oD buildF1, oD (buildPa 1), oD (build601 0 ⟨1, 0⟩), oZ r6, oT r6 (hsp := by subst hv; rfl),
    trivial⟩ (fun L4 w5 hp5 => ?_)
  refine k7 _ _ ?_
  refine wp_seq_k (fun K8 k8 => ?_)
  refine dr [.det (V6 x), .det (V6 y), .det (V6 (x + y)), .det (V6 z), .det (V6 ((x + y) * z)), .det (V6 x), .det (V6 z), .det (V6 (x * z)), .det (V6 y), .det (V6 z), .det (V6 (y * z)), .det (V6 ((x * z) + (y * z))), .det (.bool true), .det (.bool true), .det (V6 x), .det (V6 y), .det (V6 z), .det (V6 (y * z)), .det (V6 (x * (y * z))), .det (V6 x), .det (V6 y), .det (V6 (x * y)), .det (V6 z), .det (V6 ((x * y) * z)), .det (.bool true), .det (.bool true), .det (.bool true), .det (V6 x), .det (V6 y), .det (V6 (x * y)), .det (V6 y), .det (V6 x), .det (V6 (y * x)), .det (.bool true), .det (.bool true), .det (.bool true), .det (V6 x), .det (V6 x.up), .det (V6 x), .det (V6 v), .det (V6 (x * v)), .det (.bool true), .det (.bool true), .det (.bool true)] [0, 1, 2, 3, 4, 5, 6, 7, 8, 9, 10, 11, 12, 13, 14, 15, 16, 17, 18, 19, 20, 21, 22, 23, 24, 25, 26, 27, 28, 29, 30, 31, 32, 33, 34, 35, 36, 37, 38, 39, 40, 41, 42, 43] [0, 0, 3, 0, 15, 0, 0, 127, 0, 0, 1023, 2047, 4095, 8191, 16383, 16383, 16383, 114687, 262143, 16383, 16383, 2097151, 16383, 8388607, 16777215, 33554431, 67108863, 134217727, 134217727, 536870911, 134217727, 134217727, 4294967295, 8589934591, 17179869183, 34359738367, 68719476735, 137438953471, 68719476735, 68719476735, 1099511627775, 2199023255551, 4398046511103, 8796093022207] (fun L => [V6 x, V6 y, V6 z, pt (L0.b 0) 0, pt (L0.b 1) 0, pt (L0.b 2) 0, .bool false, pt (L3.b 5) 0, .int .i64 7, pt (L4.b 4) 0, .bool true, .bool true, .bool false, V6 x, .bool true, .bool false, .bool false, V6 y, .bool true, .bool false, .bool false, .bool false, V6 z, .bool true, .bool false, .bool false, .tuple #[V6 0, .int .i64 7], V6 x, .tuple #[V6 0, .int .i64 7], V6 0, .int .i64 7, PV 0, FV 1, PV ⟨1, 0⟩, V6 ⟨0, ⟨1, 0⟩, 0⟩, V6 x, V6 y, V6 (x + y), V6 z, V6 ((x + y) * z), V6 x, V6 z, V6 (x * z), V6 y, V6 z, V6 (y * z), V6 ((x * z) + (y * z)), .bool true, .bool true, V6 x, V6 y, V6 z, V6 (y * z), V6 (x * (y * z)), V6 x, V6 y, V6 (x * y), V6 z, V6 ((x * y) * z), .bool true, .bool true, .bool true, V6 x, V6 y, V6 (x * y), V6 y, V6 x, V6 (y * x), .bool true, .bool true, .bool true, V6 x, V6 x.up, V6 x, V6 v, V6 (x * v), .bool true, .bool true] ++ U 35) (fun L => [((L0.b 0), C6 x), ((L0.b 1), C6 y), ((L0.b 2), C6 z), ((L3.b 5), C6 0), ((L4.b 4), C6 v)]) hp5 ⟨
    oL 0 0 r6, oL 1 0 r6, oC K.stay hg (fp6Add K x y), oL 2 0 r6, oC K.stay hg (fp6Mul K (x + y) z), oL 0 0 r6, oL 2 0 r6, oC K.stay hg (fp6Mul K x z), oL 1 0 r6,
    oL 2 0 r6, oC K.stay hg (fp6Mul K y z), oC K.stay hg (fp6Add K (x * z) (y * z)), oE (a := ((x + y) * z)) (b := ((x * z) + (y * z))) q6 (yes (Rn.CR.add_mul x y z)),
    oM, oL 0 0 r6, oL 1 0 r6, oL 2 0 r6, oC K.stay hg (fp6Mul K y z), oC K.stay hg (fp6Mul K x (y * z)), oL 0 0 r6, oL 1 0 r6, oC K.stay hg (fp6Mul K x y), oL 2 0 r6,
    oC K.stay hg (fp6Mul K (x * y) z), oE (a := (x * (y * z))) (b := ((x * y) * z)) q6 (yes ((Rn.CR.mul_assoc x y z).symm)), oP, oM, oL 0 0 r6, oL 1 0 r6, oC K.stay hg (fp6Mul K x y),
    oL 1 0 r6, oL 0 0 r6, oC K.stay hg (fp6Mul K y x), oE (a := (x * y)) (b := (y * x)) q6 (yes (Rn.CR.mul_comm x y)), oP, oM, oL 0 0 r6, oC K.stay hg (fp6Up K x),
    oL 0 0 r6, oL 4 0 r6, oC K.stay hg (fp6Mul K x v), oE (a := x.up) (b := (x * v)) q6 (yes hu), oP, oA,
    trivial⟩ (fun L5 w6 hp6 => ?_)
  refine k8 _ _ ?_
  refine wp_seq_k (fun K9 k9 => ?_)
  refine dr [.det (.bool true), .det (.bool true), .det (V6 v), .det (V6 v), .det (V6 (v * v)), .det (V6 v), .det (V6 ((v * v) * v)), .det (FV 1), .det (FV 1), .det (PV ⟨1, 1⟩), .det (V6 ⟨⟨1, 1⟩, 0, 0⟩), .det (.bool true), .det (.bool true), .det (.bool true), .det (V6 x), .det (V6 0), .det (.bool true), .det (.bool true), .det (.int .i64 7), .det (.bool true), .det (.bool true), .det (.bool true), .det undef, .det undef, .det undef, .det undef, .det undef, .det undef, .det undef, .det undef, .det undef, .det undef, .det undef, .det (.bool true), .det (.bool true), .det (.bool true)] [0, 1, 2, 3, 4, 5, 6, 7, 8, 9, 10, 11, 12, 13, 14, 15, 16, 17, 18, 19, 20, 21, 22, 23, 24, 25, 26, 27, 28, 29, 30, 31, 32, 33, 34, 35] [0, 1, 3, 3, 15, 3, 63, 3, 3, 387, 899, 2047, 4095, 8191, 16383, 16383, 65535, 131071, 262143, 524287, 1048575, 2097151, 4194303, 8388607, 16777215, 33554431, 33554431, 134217727, 33554431, 301989887, 838860799, 2147483647, 4294967295, 8589934591, 17179869183, 34359738367] (fun L => [V6 x, V6 y, V6 z, pt (L0.b 0) 0, pt (L0.b 1) 0, pt (L0.b 2) 0, .bool true, pt (L3.b 5) 0, .int .i64 7, pt (L4.b 4) 0, .bool true, .bool true, .bool false, V6 x, .bool true, .bool false, .bool false, V6 y, .bool true, .bool false, .bool false, .bool false, V6 z, .bool true, .bool false, .bool false, .tuple #[V6 0, .int .i64 7], V6 x, .tuple #[V6 0, .int .i64 7], V6 0, .int .i64 7, PV 0, FV 1, PV ⟨1, 0⟩, V6 ⟨0, ⟨1, 0⟩, 0⟩, V6 x, V6 y, V6 (x + y), V6 z, V6 ((x + y) * z), V6 x, V6 z, V6 (x * z), V6 y, V6 z, V6 (y * z), V6 ((x * z) + (y * z)), .bool true, .bool true, V6 x, V6 y, V6 z, V6 (y * z), V6 (x * (y * z)), V6 x, V6 y, V6 (x * y), V6 z, V6 ((x * y) * z), .bool true, .bool true, .bool true, V6 x, V6 y, V6 (x * y), V6 y, V6 x, V6 (y * x), .bool true, .bool true, .bool true, V6 x, V6 x.up, V6 x, V6 v, V6 (x * v), .bool true, .bool true, .bool true, .bool true, V6 v, V6 v, V6 (v * v), V6 v, V6 ((v * v) * v), FV 1, FV 1, PV ⟨1, 1⟩, V6 ⟨⟨1, 1⟩, 0, 0⟩, .bool true, .bool true, .bool true, V6 x, V6 0, .bool true, .bool true, .int .i64 7, .bool true, .bool true, .bool true, undef, undef, undef, undef, undef, undef, undef, undef, undef, undef, undef, .bool true, .bool true]) (fun L => [((L0.b 0), C6 x), ((L0.b 1), C6 y), ((L0.b 2), C6 z), ((L3.b 5), C6 0), ((L4.b 4), C6 v)]) hp6 ⟨
    oM, oM, oL 4 0 r6, oL 4 0 r6, oC K.stay hg (fp6Mul K v v), oL 4 0 r6, oC K.stay hg (fp6Mul K (v * v) v), oD buildF1, oD buildF1, oD (buildP 1 1), oD (build60 ⟨1, 1⟩),
    oE (a := ((v * v) * v)) (b := ⟨⟨1, 1⟩, 0, 0⟩) q6 (yes h3), oP, oM, oL 0 0 r6, oD build6n, oE (a := x) (b := 0) q6 (yes hx), oM, oM, oJ .i64 .i64 7 7 (h := fun w => (eqlI _ _ _ _ w).trans rfl),
    oP, oM, oS, oS, oS, oS, oS, oS, oS, oS, oS, oS, oS, oP, oP, oA,
    trivial⟩ (fun L6 w7 hp7 => ?_)
  refine k9 _ _ ?_
  refine wp_ret ?_
  refine bodyPost_ret (v := .bool true) ?_ rfl ?_
  · exact res_t rfl (by kernel_rfl) _
  · exact ⟨rfl, hp7.bel⟩
set_option maxHeartbeats 4000000 in
theorem sixf4 {G : World → Prop} (K : FpK G) (R : RefK) (x y z v : F6) (w : World) (hg : G w) (hB : ∀ w, G w → Calls Tryd.prog 5 #[] w (Ret (.bool true) w)) (hv : ⟨0, ⟨1, 0⟩, 0⟩ = v) (hu : x.up = x * v) (h3 : v * v * v = ⟨⟨1, 1⟩, 0, 0⟩) (hx : x ≠ 0) : Calls Tryd.prog 4 #[V6 x, V6 y, V6 z] w (Ret (.bool true) w) := by
  have hp0 := Heap.start w
  go_enter Tryd.func4, Tryd.ntmps4
  refine wp_seq_k (fun K1 k1 => ?_)
  refine gs [.alloc (C6 x), .alloc (C6 y), .alloc (C6 z), .det (.bool false)] [0, 1, 2, 3] [0, 0, 0, 0] (fun L => [V6 x, V6 y, V6 z, pt (L.b 0) 0, pt (L.b 1) 0, pt (L.b 2) 0, .bool false] ++ U 106) (fun L => [(L.b 0, C6 x), (L.b 1, C6 y), (L.b 2, C6 z)]) hp0 ⟨
    oB, oB, oB, oA,
    trivial⟩ (fun L0 w1 hp1 => ?_)
  refine k1 _ _ ?_
  refine wp_seq_k (fun K2 k2 => ?_)
  refine wp_seq_k (fun K3 k3 => ?_)
  refine gs [.det (.bool true), .det (.bool false)] [0, 1] [0, 1] (fun L => [V6 x, V6 y, V6 z, pt (L0.b 0) 0, pt (L0.b 1) 0, pt (L0.b 2) 0, .bool false, undef, undef, undef, undef, .bool true, .bool false] ++ U 100) (fun L => [((L0.b 0), C6 x), ((L0.b 1), C6 y), ((L0.b 2), C6 z)]) hp1 ⟨
    oC K.stay hg hB, oN,
    trivial⟩ (fun L1 w2 hp2 => ?_)
  refine k3 _ _ ?_
  refine wp_cond_false (by kernel_rfl) ?_
  refine skips ?_
  refine k2 _ _ ?_
  refine wp_seq_k (fun K4 k4 => ?_)
  refine wp_seq_k (fun K5 k5 => ?_)
  refine gs [.det (V6 x), .det (.bool true), .det (.bool false), .det (.bool false), .det (V6 y), .det (.bool true), .det (.bool false), .det (.bool false), .det (.bool false), .det (V6 z), .det (.bool true), .det (.bool false), .det (.bool false)] [0, 1, 2, 3, 4, 5, 6, 7, 8, 9, 10, 11, 12] [0, 1, 3, 7, 15, 31, 63, 127, 255, 511, 1023, 2047, 4095] (fun L => [V6 x, V6 y, V6 z, pt (L0.b 0) 0, pt (L0.b 1) 0, pt (L0.b 2) 0, .bool false, undef, undef, undef, undef, .bool true, .bool false, V6 x, .bool true, .bool false, .bool false, V6 y, .bool true, .bool false, .bool false, .bool false, V6 z, .bool true, .bool false, .bool false] ++ U 87) (fun L => [((L0.b 0), C6 x), ((L0.b 1), C6 y), ((L0.b 2), C6 z)]) hp2 ⟨
    oL 0 0 r6, oR (ref5May6P R x), oN, oM, oL 1 0 r6, oR (ref5May6P R y), oN, oP, oM, oL 2 0 r6, oR (ref5May6P R z), oN, oP,
    trivial⟩ (fun L2 w3 hp3 => ?_)
  refine k5 _ _ ?_
  refine wp_cond_false (by kernel_rfl) ?_
  refine skips ?_
  refine k4 _ _ ?_
  refine wp_seq_k (fun K6 k6 => ?_)
  refine gs [.det (V6 x), .det (.tuple #[V6 x.inv, .int .i64 0]), .det (.tuple #[V6 x.inv, .int .i64 0]), .det (V6 x.inv), .det (.int .i64 0), .alloc (C6 0), .store (.new 5) 0 (C6 x.inv) (C6 x.inv), .det (.int .i64 0)] [0, 1, 2, 3, 4, 5, 6, 7] [0, 1, 3, 7, 7, 0, 47, 127] (fun L => [V6 x, V6 y, V6 z, pt (L0.b 0) 0, pt (L0.b 1) 0, pt (L0.b 2) 0, .bool false, pt (L.b 5) 0, .int .i64 0, undef, undef, .bool true, .bool false, V6 x, .bool true, .bool false, .bool false, V6 y, .bool true, .bool false, .bool false, .bool false, V6 z, .bool true, .bool false, .bool false, .tuple #[V6 x.inv, .int .i64 0], V6 x, .tuple #[V6 x.inv, .int .i64 0], V6 x.inv, .int .i64 0] ++ U 82) (fun L => [((L0.b 0), C6 x), ((L0.b 1), C6 y), ((L0.b 2), C6 z), (L.b 5, C6 x.inv)]) hp3 ⟨
    oL 0 0 r6, oH (v := .tuple #[V6 x.inv, .int .i64 0]) (vs := #[V6 x]) (fun w hb _ => fp6Inv K x w (K.stay hg hb) (F6.norm_ne hx)), oM, oX, oX, oZ r6, oT r6, oA,
    trivial⟩ (fun L3 w4 hp4 => ?_)
  refine k6 _ _ ?_
  refine wp_seq_k (fun K7 k7 => ?_)
  refine gs [.det (PV 0), .det (FV 1), .det (PV ⟨1, 0⟩), .det (V6 ⟨0, ⟨1, 0⟩, 0⟩), .alloc (C6 0), .store (.new 4) 0 (C6 ⟨0, ⟨1, 0⟩, 0⟩) (C6 v)] [0, 1, 2, 3, 4, 5] [0, 0, 2, 7, 0, 31] (fun L => [V6 x, V6 y, V6 z, pt (L0.b 0) 0, pt (L0.b 1) 0, pt (L0.b 2) 0, .bool false, pt (L3.b 5) 0, .int .i64 0, pt (L.b 4) 0, undef, .bool true, .bool false, V6 x, .bool true, .bool false, .bool false, V6 y, .bool true, .bool false, .bool false, .bool false, V6 z, .bool true, .bool false, .bool false, .tuple #[V6 x.inv, .int .i64 0], V6 x, .tuple #[V6 x.inv, .int .i64 0], V6 x.inv, .int .i64 0, PV 0, FV 1, PV ⟨1, 0⟩, V6 ⟨0, ⟨1, 0⟩, 0⟩] ++ U 78) (fun L => [((L0.b 0), C6 x), ((L0.b 1), C6 y), ((L0.b 2), C6 z), ((L3.b 5), C6 x.inv), (L.b 4, C6 v)]) hp4 ⟨
    oD buildP0, oD buildF1, oD (buildPa 1), oD (build601 0 ⟨1, 0⟩), oZ r6, oT r6 (hsp := by subst hv; rfl),
    trivial⟩ (fun L4 w5 hp5 => ?_)
  refine k7 _ _ ?_
  refine wp_seq_k (fun K8 k8 => ?_)
  refine dr [.det (V6 x), .det (V6 y), .det (V6 (x + y)), .det (V6 z), .det (V6 ((x + y) * z)), .det (V6 x), .det (V6 z), .det (V6 (x * z)), .det (V6 y), .det (V6 z), .det (V6 (y * z)), .det (V6 ((x * z) + (y * z))), .det (.bool true), .det (.bool true), .det (V6 x), .det (V6 y), .det (V6 z), .det (V6 (y * z)), .det (V6 (x * (y * z))), .det (V6 x), .det (V6 y), .det (V6 (x * y)), .det (V6 z), .det (V6 ((x * y) * z)), .det (.bool true), .det (.bool true), .det (.bool true), .det (V6 x), .det (V6 y), .det (V6 (x * y)), .det (V6 y), .det (V6 x), .det (V6 (y * x)), .det (.bool true), .det (.bool true), .det (.bool true), .det (V6 x), .det (V6 x.up), .det (V6 x), .det (V6 v), .det (V6 (x * v)), .det (.bool true), .det (.bool true), .det (.bool true)] [0, 1, 2, 3, 4, 5, 6, 7, 8, 9, 10, 11, 12, 13, 14, 15, 16, 17, 18, 19, 20, 21, 22, 23, 24, 25, 26, 27, 28, 29, 30, 31, 32, 33, 34, 35, 36, 37, 38, 39, 40, 41, 42, 43] [0, 0, 3, 0, 15, 0, 0, 127, 0, 0, 1023, 2047, 4095, 8191, 16383, 16383, 16383, 114687, 262143, 16383, 16383, 2097151, 16383, 8388607, 16777215, 33554431, 67108863, 134217727, 134217727, 536870911, 134217727, 134217727, 4294967295, 8589934591, 17179869183, 34359738367, 68719476735, 137438953471, 68719476735, 68719476735, 1099511627775, 2199023255551, 4398046511103, 8796093022207] (fun L => [V6 x, V6 y, V6 z, pt (L0.b 0) 0, pt (L0.b 1) 0, pt (L0.b 2) 0, .bool false, pt (L3.b 5) 0, .int .i64 0, pt (L4.b 4) 0, .bool true, .bool true, .bool false, V6 x, .bool true, .bool false, .bool false, V6 y, .bool true, .bool false, .bool false, .bool false, V6 z, .bool true, .bool false, .bool false, .tuple #[V6 x.inv, .int .i64 0], V6 x, .tuple #[V6 x.inv, .int .i64 0], V6 x.inv, .int .i64 0, PV 0, FV 1, PV ⟨1, 0⟩, V6 ⟨0, ⟨1, 0⟩, 0⟩, V6 x, V6 y, V6 (x + y), V6 z, V6 ((x + y) * z), V6 x, V6 z, V6 (x * z), V6 y, V6 z, V6 (y * z), V6 ((x * z) + (y * z)), .bool true, .bool true, V6 x, V6 y, V6 z, V6 (y * z), V6 (x * (y * z)), V6 x, V6 y, V6 (x * y), V6 z, V6 ((x * y) * z), .bool true, .bool true, .bool true, V6 x, V6 y, V6 (x * y), V6 y, V6 x, V6 (y * x), .bool true, .bool true, .bool true, V6 x, V6 x.up, V6 x, V6 v, V6 (x * v), .bool true, .bool true] ++ U 35) (fun L => [((L0.b 0), C6 x), ((L0.b 1), C6 y), ((L0.b 2), C6 z), ((L3.b 5), C6 x.inv), ((L4.b 4), C6 v)]) hp5 ⟨
    oL 0 0 r6, oL 1 0 r6, oC K.stay hg (fp6Add K x y), oL 2 0 r6, oC K.stay hg (fp6Mul K (x + y) z), oL 0 0 r6, oL 2 0 r6, oC K.stay hg (fp6Mul K x z), oL 1 0 r6,
    oL 2 0 r6, oC K.stay hg (fp6Mul K y z), oC K.stay hg (fp6Add K (x * z) (y * z)), oE (a := ((x + y) * z)) (b := ((x * z) + (y * z))) q6 (yes (Rn.CR.add_mul x y z)),
    oM, oL 0 0 r6, oL 1 0 r6, oL 2 0 r6, oC K.stay hg (fp6Mul K y z), oC K.stay hg (fp6Mul K x (y * z)), oL 0 0 r6, oL 1 0 r6, oC K.stay hg (fp6Mul K x y), oL 2 0 r6,
    oC K.stay hg (fp6Mul K (x * y) z), oE (a := (x * (y * z))) (b := ((x * y) * z)) q6 (yes ((Rn.CR.mul_assoc x y z).symm)), oP, oM, oL 0 0 r6, oL 1 0 r6, oC K.stay hg (fp6Mul K x y),
    oL 1 0 r6, oL 0 0 r6, oC K.stay hg (fp6Mul K y x), oE (a := (x * y)) (b := (y * x)) q6 (yes (Rn.CR.mul_comm x y)), oP, oM, oL 0 0 r6, oC K.stay hg (fp6Up K x),
    oL 0 0 r6, oL 4 0 r6, oC K.stay hg (fp6Mul K x v), oE (a := x.up) (b := (x * v)) q6 (yes hu), oP, oA,
    trivial⟩ (fun L5 w6 hp6 => ?_)
  refine k8 _ _ ?_
  refine wp_seq_k (fun K9 k9 => ?_)
  refine dr [.det (.bool true), .det (.bool true), .det (V6 v), .det (V6 v), .det (V6 (v * v)), .det (V6 v), .det (V6 ((v * v) * v)), .det (FV 1), .det (FV 1), .det (PV ⟨1, 1⟩), .det (V6 ⟨⟨1, 1⟩, 0, 0⟩), .det (.bool true), .det (.bool true), .det (.bool true), .det (V6 x), .det (V6 0), .det (.bool false), .det (.bool false), .det undef, .det undef, .det (.bool false), .det (.bool false), .det (.int .i64 0), .det (.bool true), .det (.bool true), .det (V6 x), .det (V6 x.inv), .det (V6 (x * x.inv)), .det (FV 1), .det (PV ⟨1, 0⟩), .det (V6 ⟨⟨1, 0⟩, 0, 0⟩), .det (.bool true), .det (.bool true), .det (.bool true), .det (.bool true), .det (.bool true)] [0, 1, 2, 3, 4, 5, 6, 7, 8, 9, 10, 11, 12, 13, 14, 15, 16, 17, 18, 19, 20, 21, 22, 23, 24, 25, 26, 27, 28, 29, 30, 31, 32, 33, 34, 35] [0, 1, 3, 3, 15, 3, 63, 3, 3, 387, 899, 2047, 4095, 8191, 16383, 16383, 65535, 131071, 262143, 524287, 1048575, 2097151, 4194303, 8388607, 16777215, 33554431, 33554431, 134217727, 33554431, 301989887, 838860799, 2147483647, 4294967295, 8589934591, 17179869183, 34359738367] (fun L => [V6 x, V6 y, V6 z, pt (L0.b 0) 0, pt (L0.b 1) 0, pt (L0.b 2) 0, .bool true, pt (L3.b 5) 0, .int .i64 0, pt (L4.b 4) 0, .bool true, .bool true, .bool false, V6 x, .bool true, .bool false, .bool false, V6 y, .bool true, .bool false, .bool false, .bool false, V6 z, .bool true, .bool false, .bool false, .tuple #[V6 x.inv, .int .i64 0], V6 x, .tuple #[V6 x.inv, .int .i64 0], V6 x.inv, .int .i64 0, PV 0, FV 1, PV ⟨1, 0⟩, V6 ⟨0, ⟨1, 0⟩, 0⟩, V6 x, V6 y, V6 (x + y), V6 z, V6 ((x + y) * z), V6 x, V6 z, V6 (x * z), V6 y, V6 z, V6 (y * z), V6 ((x * z) + (y * z)), .bool true, .bool true, V6 x, V6 y, V6 z, V6 (y * z), V6 (x * (y * z)), V6 x, V6 y, V6 (x * y), V6 z, V6 ((x * y) * z), .bool true, .bool true, .bool true, V6 x, V6 y, V6 (x * y), V6 y, V6 x, V6 (y * x), .bool true, .bool true, .bool true, V6 x, V6 x.up, V6 x, V6 v, V6 (x * v), .bool true, .bool true, .bool true, .bool true, V6 v, V6 v, V6 (v * v), V6 v, V6 ((v * v) * v), FV 1, FV 1, PV ⟨1, 1⟩, V6 ⟨⟨1, 1⟩, 0, 0⟩, .bool true, .bool true, .bool true, V6 x, V6 0, .bool false, .bool false, undef, undef, .bool false, .bool false, .int .i64 0, .bool true, .bool true, V6 x, V6 x.inv, V6 (x * x.inv), FV 1, PV ⟨1, 0⟩, V6 ⟨⟨1, 0⟩, 0, 0⟩, .bool true, .bool true, .bool true, .bool true]) (fun L => [((L0.b 0), C6 x), ((L0.b 1), C6 y), ((L0.b 2), C6 z), ((L3.b 5), C6 x.inv), ((L4.b 4), C6 v)]) hp6 ⟨
    oM, oM, oL 4 0 r6, oL 4 0 r6, oC K.stay hg (fp6Mul K v v), oL 4 0 r6, oC K.stay hg (fp6Mul K (v * v) v), oD buildF1, oD buildF1, oD (buildP 1 1), oD (build60 ⟨1, 1⟩),
    oE (a := ((v * v) * v)) (b := ⟨⟨1, 1⟩, 0, 0⟩) q6 (yes h3), oP, oM, oL 0 0 r6, oD build6n, oE (a := x) (b := 0) q6 (nay hx), oM, oS, oS, oP, oM, oM, oJ .i64 .i64 0 0 (h := fun w => (eqlI _ _ _ _ w).trans rfl),
    oM, oL 0 0 r6, oL 3 0 r6, oC K.stay hg (fp6Mul K x x.inv), oD buildF1, oD (buildPa 1), oD (build60 ⟨1, 0⟩), oE (a := (x * x.inv)) (b := ⟨⟨1, 0⟩, 0, 0⟩) q6 (yes (show x * x.inv = ⟨⟨1, 0⟩, 0, 0⟩ from F6.inv_mul hx)),
    oP, oP, oP, oA,
    trivial⟩ (fun L6 w7 hp7 => ?_)
  refine k9 _ _ ?_
  refine wp_ret ?_
  refine bodyPost_ret (v := .bool true) ?_ rfl ?_
  · exact res_t rfl (by kernel_rfl) _
  · exact ⟨rfl, hp7.bel⟩
/-- What Fp6Field answers. -/
theorem fp6Field_walk {G : World → Prop} (K : FpK G) (R : RefK) (f g f2 g2 f3 g3 f4 g4 f5 g5 f6 g6 f7 g7 f8 g8 f9 g9 : Nat → Int) (rf : Rg f 6) (rg : Rg g 6) (rf2 : Rg f2 6) (rg2 : Rg g2 6) (rf3 : Rg f3 6) (rg3 : Rg g3 6) (rf4 : Rg f4 6) (rg4 : Rg g4 6) (rf5 : Rg f5 6) (rg5 : Rg g5 6) (rf6 : Rg f6 6) (rg6 : Rg g6 6) (rf7 : Rg f7 6) (rg7 : Rg g7 6) (rf8 : Rg f8 6) (rg8 : Rg g8 6) (rf9 : Rg f9 6) (rg9 : Rg g9 6) (w : World) (hg : G w) :
    Calls Tryd.prog 4 #[QV6 f g f2 g2 f3 g3, QV6 f4 g4 f5 g5 f6 g6, QV6 f7 g7 f8 g8 f9 g9] w (Ret (.bool true) w) := by
  have hB := fun w hg => begun6 K w hg
  rcases three_or K R f g f2 g2 f3 g3 rf rg rf2 rg2 rf3 rg3 with ⟨⟨x, hx⟩, h1, -⟩ | ⟨h1, -⟩
  · rcases three_or K R f4 g4 f5 g5 f6 g6 rf4 rg4 rf5 rg5 rf6 rg6 with ⟨⟨y, hy⟩, h2, -⟩ | ⟨h2, -⟩
    · rcases three_or K R f7 g7 f8 g8 f9 g9 rf7 rg7 rf8 rg8 rf9 rg9 with ⟨⟨z, hz⟩, h3, -⟩ | ⟨h3, -⟩
      · rw [hx, hy, hz]
        by_cases h0 : x = 0
        · exact sixf3 K R x y z _ w hg hB rfl (F6.up_v x) F6.vt3 h0
        · exact sixf4 K R x y z _ w hg hB rfl (F6.up_v x) F6.vt3 h0
      · exact sixf2 K R f g f2 g2 f3 g3 f4 g4 f5 g5 f6 g6 f7 g7 f8 g8 f9 g9 w hg hB h1 h2 h3
    · exact sixf1 K R f g f2 g2 f3 g3 f4 g4 f5 g5 f6 g6 f7 g7 f8 g8 f9 g9 w hg hB h1 h2
  · exact sixf0 K R f g f2 g2 f3 g3 f4 g4 f5 g5 f6 g6 f7 g7 f8 g8 f9 g9 w hg hB h1
end Go.Proofs.YtmegifgpkdigmaaDoor.fpn
