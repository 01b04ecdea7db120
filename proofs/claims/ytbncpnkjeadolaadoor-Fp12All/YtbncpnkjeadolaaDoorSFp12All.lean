/- Fp12AllWalk. -/
import Derived.Test.YtbncpnkjeadolaaDoorGG
/- Fp12All walked. -/
namespace Go.Proofs.YtbncpnkjeadolaaDoor.fpn
open Go.RowKit Pl
set_option linter.unusedVariables false
set_option linter.unusedSimpArgs false
set_option maxRecDepth 4000

/-- Limbs are a six, or may not be one. -/
theorem three_of {f g f2 g2 f3 g3 : Nat → Int} (rf : Rg f 6) (rg : Rg g 6) (rf2 : Rg f2 6) (rg2 : Rg g2 6) (rf3 : Rg f3 6) (rg3 : Rg g3 6) (h : may6 f g f2 g2 f3 g3 = true) : ∃ x : F6, QV6 f g f2 g2 f3 g3 = V6 x := by
  simp only [may6, may2, Bool.and_eq_true, decide_eq_true_eq] at h
  obtain ⟨⟨l0, l1⟩, ⟨l2, l3⟩, l4, l5⟩ := h
  obtain ⟨a, ha, -⟩ := num_of rf l0
  obtain ⟨b, hb, -⟩ := num_of rg l1
  obtain ⟨c, hc, -⟩ := num_of rf2 l2
  obtain ⟨d, hd, -⟩ := num_of rg2 l3
  obtain ⟨e, he, -⟩ := num_of rf3 l4
  obtain ⟨i, hi, -⟩ := num_of rg3 l5
  exact ⟨⟨⟨a, b⟩, ⟨c, d⟩, ⟨e, i⟩⟩, QV6_of (x := ⟨⟨a, b⟩, ⟨c, d⟩, ⟨e, i⟩⟩) ha hb hc hd he hi⟩
theorem six_or {G : World → Prop} (K : FpK G) (R : RefK) (f0a g0a f0b g0b f0c g0c f0d g0d f0e g0e f0f g0f : Nat → Int) (rf0a : Rg f0a 6) (rg0a : Rg g0a 6) (rf0b : Rg f0b 6) (rg0b : Rg g0b 6) (rf0c : Rg f0c 6) (rg0c : Rg g0c 6) (rf0d : Rg f0d 6) (rg0d : Rg g0d 6) (rf0e : Rg f0e 6) (rg0e : Rg g0e 6) (rf0f : Rg f0f 6) (rg0f : Rg g0f 6) :
    ((∃ x : F12, QV12 f0a g0a f0b g0b f0c g0c f0d g0d f0e g0e f0f g0f = V12 x) ∧ (∀ w, G w → Calls Tryd.prog 7 #[QV12 f0a g0a f0b g0b f0c g0c f0d g0d f0e g0e f0f g0f] w (Ret (.bool true) w)) ∧ (∀ w, G w → Calls Tryd.prog 8 #[QV12 f0a g0a f0b g0b f0c g0c f0d g0d f0e g0e f0f g0f] w (Ret (.bool true) w))) ∨
    ((∀ w, G w → Calls Tryd.prog 7 #[QV12 f0a g0a f0b g0b f0c g0c f0d g0d f0e g0e f0f g0f] w (Ret (.bool false) w)) ∧ (∀ w, G w → Calls Tryd.prog 8 #[QV12 f0a g0a f0b g0b f0c g0c f0d g0d f0e g0e f0f g0f] w (Ret (.bool false) w))) := by
  have h1 := fun w => ref5May12 R f0a g0a f0b g0b f0c g0c f0d g0d f0e g0e f0f g0f w rf0a rg0a rf0b rg0b rf0c rg0c rf0d rg0d rf0e rg0e rf0f rg0f
  have h2 := fun w hg => fp12May K f0a g0a f0b g0b f0c g0c f0d g0d f0e g0e f0f g0f w hg rf0a rg0a rf0b rg0b rf0c rg0c rf0d rg0d rf0e rg0e rf0f rg0f
  cases h : (may6 f0a g0a f0b g0b f0c g0c && may6 f0d g0d f0e g0e f0f g0f) with
  | false =>
    rw [h] at h1 h2
    exact .inr ⟨fun w _ => h1 w, h2⟩
  | true =>
    rw [h] at h1 h2
    rw [Bool.and_eq_true] at h
    obtain ⟨x, hx⟩ := three_of rf0a rg0a rf0b rg0b rf0c rg0c h.1
    obtain ⟨y, hy⟩ := three_of rf0d rg0d rf0e rg0e rf0f rg0f h.2
    exact .inl ⟨⟨⟨x, y⟩, QV12_of (x := ⟨x, y⟩) hx hy⟩, fun w _ => h1 w, h2⟩
set_option maxHeartbeats 4000000 in
theorem twel0 {G : World → Prop} (K : FpK G) (R : RefK) (f0a g0a f0b g0b f0c g0c f0d g0d f0e g0e f0f g0f f1a g1a f1b g1b f1c g1c f1d g1d f1e g1e f1f g1f : Nat → Int) (m : Nat) (w : World) (hg : G w) (hB : ∀ w, G w → Calls Tryd.prog 6 #[] w (Ret (.bool true) w)) (hm : ∀ w, G w → Calls Tryd.prog 7 #[QV12 f0a g0a f0b g0b f0c g0c f0d g0d f0e g0e f0f g0f] w (Ret (.bool false) w)) (hm2 : ∀ w, G w → Calls Tryd.prog 8 #[QV12 f0a g0a f0b g0b f0c g0c f0d g0d f0e g0e f0f g0f] w (Ret (.bool false) w)) : Calls Tryd.prog 3 #[QV12 f0a g0a f0b g0b f0c g0c f0d g0d f0e g0e f0f g0f, QV12 f1a g1a f1b g1b f1c g1c f1d g1d f1e g1e f1f g1f, .int .u64 ((m : Nat) : Int)] w (Ret (.bool true) w) := by
  have hp0 := Heap.start w
  go_enter Tryd.func3, Tryd.ntmps3
  refine wp_seq_k (fun K1 k1 => ?_)
  refine gs [.alloc (QC12 f0a g0a f0b g0b f0c g0c f0d g0d f0e g0e f0f g0f), .alloc (QC12 f1a g1a f1b g1b f1c g1c f1d g1d f1e g1e f1f g1f), .det (.bool false)] [0, 1, 2] [0, 0, 0] (fun L => [QV12 f0a g0a f0b g0b f0c g0c f0d g0d f0e g0e f0f g0f, QV12 f1a g1a f1b g1b f1c g1c f1d g1d f1e g1e f1f g1f, .int .u64 ((m : Nat) : Int), pt (L.b 0) 0, pt (L.b 1) 0, undef, .bool false] ++ U 86) (fun L => [(L.b 0, QC12 f0a g0a f0b g0b f0c g0c f0d g0d f0e g0e f0f g0f), (L.b 1, QC12 f1a g1a f1b g1b f1c g1c f1d g1d f1e g1e f1f g1f)]) hp0 ⟨
    oB, oB, oA,
    trivial⟩ (fun L0 w1 hp1 => ?_)
  refine k1 _ _ ?_
  refine wp_seq_k (fun K2 k2 => ?_)
  refine wp_seq_k (fun K3 k3 => ?_)
  refine gs [.det (.bool true), .det (.bool false)] [0, 1] [0, 1] (fun L => [QV12 f0a g0a f0b g0b f0c g0c f0d g0d f0e g0e f0f g0f, QV12 f1a g1a f1b g1b f1c g1c f1d g1d f1e g1e f1f g1f, .int .u64 ((m : Nat) : Int), pt (L0.b 0) 0, pt (L0.b 1) 0, undef, .bool false, undef, undef, undef, undef, .bool true, .bool false] ++ U 80) (fun L => [((L0.b 0), QC12 f0a g0a f0b g0b f0c g0c f0d g0d f0e g0e f0f g0f), ((L0.b 1), QC12 f1a g1a f1b g1b f1c g1c f1d g1d f1e g1e f1f g1f)]) hp1 ⟨
    oC K.stay hg hB, oN,
    trivial⟩ (fun L1 w2 hp2 => ?_)
  refine k3 _ _ ?_
  refine wp_cond_false (by kernel_rfl) ?_
  refine skips ?_
  refine k2 _ _ ?_
  refine wp_seq_k (fun K4 k4 => ?_)
  refine wp_seq_k (fun K5 k5 => ?_)
  refine gs [.det (QV12 f0a g0a f0b g0b f0c g0c f0d g0d f0e g0e f0f g0f), .det (.bool false), .det (.bool true), .det (.bool true), .det undef, .det undef, .det undef, .det (.bool true)] [0, 1, 2, 3, 4, 5, 6, 7] [0, 1, 3, 7, 15, 31, 63, 127] (fun L => [QV12 f0a g0a f0b g0b f0c g0c f0d g0d f0e g0e f0f g0f, QV12 f1a g1a f1b g1b f1c g1c f1d g1d f1e g1e f1f g1f, .int .u64 ((m : Nat) : Int), pt (L0.b 0) 0, pt (L0.b 1) 0, undef, .bool false, undef, undef, undef, undef, .bool true, .bool false, QV12 f0a g0a f0b g0b f0c g0c f0d g0d f0e g0e f0f g0f, .bool false, .bool true, .bool true, undef, undef, undef, .bool true] ++ U 72) (fun L => [((L0.b 0), QC12 f0a g0a f0b g0b f0c g0c f0d g0d f0e g0e f0f g0f), ((L0.b 1), QC12 f1a g1a f1b g1b f1c g1c f1d g1d f1e g1e f1f g1f)]) hp2 ⟨
    oL 0 0 r12, oC K.stay hg hm, oN, oM, oS, oS, oS, oP,
    trivial⟩ (fun L2 w3 hp3 => ?_)
  refine k5 _ _ ?_
  refine wp_cond_true (by kernel_rfl) ?_
  refine wp_seq_k (fun K6 k6 => ?_)
  refine dr [.det (QV12 f0a g0a f0b g0b f0c g0c f0d g0d f0e g0e f0f g0f), .det (.bool false), .det (QV12 f0a g0a f0b g0b f0c g0c f0d g0d f0e g0e f0f g0f), .det (.bool false), .det (.bool true), .det (.bool true)] [0, 1, 2, 3, 4, 5] [0, 1, 0, 7, 15, 31] (fun L => [QV12 f0a g0a f0b g0b f0c g0c f0d g0d f0e g0e f0f g0f, QV12 f1a g1a f1b g1b f1c g1c f1d g1d f1e g1e f1f g1f, .int .u64 ((m : Nat) : Int), pt (L0.b 0) 0, pt (L0.b 1) 0, undef, .bool true, undef, undef, undef, undef, .bool true, .bool false, QV12 f0a g0a f0b g0b f0c g0c f0d g0d f0e g0e f0f g0f, .bool false, .bool true, .bool true, undef, undef, undef, .bool true, QV12 f0a g0a f0b g0b f0c g0c f0d g0d f0e g0e f0f g0f, .bool false, QV12 f0a g0a f0b g0b f0c g0c f0d g0d f0e g0e f0f g0f, .bool false, .bool true] ++ U 67) (fun L => [((L0.b 0), QC12 f0a g0a f0b g0b f0c g0c f0d g0d f0e g0e f0f g0f), ((L0.b 1), QC12 f1a g1a f1b g1b f1c g1c f1d g1d f1e g1e f1f g1f)]) hp3 ⟨
    oL 0 0 r12, oC K.stay hg hm2, oL 0 0 r12, oC K.stay hg hm, oE (a := false) (b := false) qB (yes rfl), oA,
    trivial⟩ (fun L3 w4 hp4 => ?_)
  refine k6 _ _ ?_
  refine wp_ret ?_
  refine bodyPost_ret (v := .bool true) ?_ rfl ?_
  · exact res_t rfl (by kernel_rfl) _
  · exact ⟨rfl, hp4.bel⟩
set_option maxHeartbeats 4000000 in
theorem twel1 {G : World → Prop} (K : FpK G) (R : RefK) (f0a g0a f0b g0b f0c g0c f0d g0d f0e g0e f0f g0f f1a g1a f1b g1b f1c g1c f1d g1d f1e g1e f1f g1f : Nat → Int) (m : Nat) (w : World) (hg : G w) (hB : ∀ w, G w → Calls Tryd.prog 6 #[] w (Ret (.bool true) w)) (hm : ∀ w, G w → Calls Tryd.prog 7 #[QV12 f0a g0a f0b g0b f0c g0c f0d g0d f0e g0e f0f g0f] w (Ret (.bool true) w)) (hm2 : ∀ w, G w → Calls Tryd.prog 8 #[QV12 f0a g0a f0b g0b f0c g0c f0d g0d f0e g0e f0f g0f] w (Ret (.bool true) w)) (hn : ∀ w, G w → Calls Tryd.prog 7 #[QV12 f1a g1a f1b g1b f1c g1c f1d g1d f1e g1e f1f g1f] w (Ret (.bool false) w)) : Calls Tryd.prog 3 #[QV12 f0a g0a f0b g0b f0c g0c f0d g0d f0e g0e f0f g0f, QV12 f1a g1a f1b g1b f1c g1c f1d g1d f1e g1e f1f g1f, .int .u64 ((m : Nat) : Int)] w (Ret (.bool true) w) := by
  have hp0 := Heap.start w
  go_enter Tryd.func3, Tryd.ntmps3
  refine wp_seq_k (fun K1 k1 => ?_)
  refine gs [.alloc (QC12 f0a g0a f0b g0b f0c g0c f0d g0d f0e g0e f0f g0f), .alloc (QC12 f1a g1a f1b g1b f1c g1c f1d g1d f1e g1e f1f g1f), .det (.bool false)] [0, 1, 2] [0, 0, 0] (fun L => [QV12 f0a g0a f0b g0b f0c g0c f0d g0d f0e g0e f0f g0f, QV12 f1a g1a f1b g1b f1c g1c f1d g1d f1e g1e f1f g1f, .int .u64 ((m : Nat) : Int), pt (L.b 0) 0, pt (L.b 1) 0, undef, .bool false] ++ U 86) (fun L => [(L.b 0, QC12 f0a g0a f0b g0b f0c g0c f0d g0d f0e g0e f0f g0f), (L.b 1, QC12 f1a g1a f1b g1b f1c g1c f1d g1d f1e g1e f1f g1f)]) hp0 ⟨
    oB, oB, oA,
    trivial⟩ (fun L0 w1 hp1 => ?_)
  refine k1 _ _ ?_
  refine wp_seq_k (fun K2 k2 => ?_)
  refine wp_seq_k (fun K3 k3 => ?_)
  refine gs [.det (.bool true), .det (.bool false)] [0, 1] [0, 1] (fun L => [QV12 f0a g0a f0b g0b f0c g0c f0d g0d f0e g0e f0f g0f, QV12 f1a g1a f1b g1b f1c g1c f1d g1d f1e g1e f1f g1f, .int .u64 ((m : Nat) : Int), pt (L0.b 0) 0, pt (L0.b 1) 0, undef, .bool false, undef, undef, undef, undef, .bool true, .bool false] ++ U 80) (fun L => [((L0.b 0), QC12 f0a g0a f0b g0b f0c g0c f0d g0d f0e g0e f0f g0f), ((L0.b 1), QC12 f1a g1a f1b g1b f1c g1c f1d g1d f1e g1e f1f g1f)]) hp1 ⟨
    oC K.stay hg hB, oN,
    trivial⟩ (fun L1 w2 hp2 => ?_)
  refine k3 _ _ ?_
  refine wp_cond_false (by kernel_rfl) ?_
  refine skips ?_
  refine k2 _ _ ?_
  refine wp_seq_k (fun K4 k4 => ?_)
  refine wp_seq_k (fun K5 k5 => ?_)
  refine gs [.det (QV12 f0a g0a f0b g0b f0c g0c f0d g0d f0e g0e f0f g0f), .det (.bool true), .det (.bool false), .det (.bool false), .det (QV12 f1a g1a f1b g1b f1c g1c f1d g1d f1e g1e f1f g1f), .det (.bool false), .det (.bool true), .det (.bool true)] [0, 1, 2, 3, 4, 5, 6, 7] [0, 1, 3, 7, 15, 31, 63, 127] (fun L => [QV12 f0a g0a f0b g0b f0c g0c f0d g0d f0e g0e f0f g0f, QV12 f1a g1a f1b g1b f1c g1c f1d g1d f1e g1e f1f g1f, .int .u64 ((m : Nat) : Int), pt (L0.b 0) 0, pt (L0.b 1) 0, undef, .bool false, undef, undef, undef, undef, .bool true, .bool false, QV12 f0a g0a f0b g0b f0c g0c f0d g0d f0e g0e f0f g0f, .bool true, .bool false, .bool false, QV12 f1a g1a f1b g1b f1c g1c f1d g1d f1e g1e f1f g1f, .bool false, .bool true, .bool true] ++ U 72) (fun L => [((L0.b 0), QC12 f0a g0a f0b g0b f0c g0c f0d g0d f0e g0e f0f g0f), ((L0.b 1), QC12 f1a g1a f1b g1b f1c g1c f1d g1d f1e g1e f1f g1f)]) hp2 ⟨
    oL 0 0 r12, oC K.stay hg hm, oN, oM, oL 1 0 r12, oC K.stay hg hn, oN, oP,
    trivial⟩ (fun L2 w3 hp3 => ?_)
  refine k5 _ _ ?_
  refine wp_cond_true (by kernel_rfl) ?_
  refine wp_seq_k (fun K6 k6 => ?_)
  refine dr [.det (QV12 f0a g0a f0b g0b f0c g0c f0d g0d f0e g0e f0f g0f), .det (.bool true), .det (QV12 f0a g0a f0b g0b f0c g0c f0d g0d f0e g0e f0f g0f), .det (.bool true), .det (.bool true), .det (.bool true)] [0, 1, 2, 3, 4, 5] [0, 1, 0, 7, 15, 31] (fun L => [QV12 f0a g0a f0b g0b f0c g0c f0d g0d f0e g0e f0f g0f, QV12 f1a g1a f1b g1b f1c g1c f1d g1d f1e g1e f1f g1f, .int .u64 ((m : Nat) : Int), pt (L0.b 0) 0, pt (L0.b 1) 0, undef, .bool true, undef, undef, undef, undef, .bool true, .bool false, QV12 f0a g0a f0b g0b f0c g0c f0d g0d f0e g0e f0f g0f, .bool true, .bool false, .bool false, QV12 f1a g1a f1b g1b f1c g1c f1d g1d f1e g1e f1f g1f, .bool false, .bool true, .bool true, QV12 f0a g0a f0b g0b f0c g0c f0d g0d f0e g0e f0f g0f, .bool true, QV12 f0a g0a f0b g0b f0c g0c f0d g0d f0e g0e f0f g0f, .bool true, .bool true] ++ U 67) (fun L => [((L0.b 0), QC12 f0a g0a f0b g0b f0c g0c f0d g0d f0e g0e f0f g0f), ((L0.b 1), QC12 f1a g1a f1b g1b f1c g1c f1d g1d f1e g1e f1f g1f)]) hp3 ⟨
    oL 0 0 r12, oC K.stay hg hm2, oL 0 0 r12, oC K.stay hg hm, oE (a := true) (b := true) qB (yes rfl), oA,
    trivial⟩ (fun L3 w4 hp4 => ?_)
  refine k6 _ _ ?_
  refine wp_ret ?_
  refine bodyPost_ret (v := .bool true) ?_ rfl ?_
  · exact res_t rfl (by kernel_rfl) _
  · exact ⟨rfl, hp4.bel⟩
set_option maxHeartbeats 4000000 in
theorem twel2 {G : World → Prop} (K : FpK G) (R : RefK) (x y : F12) (m : Nat) (w : World) (hg : G w) (hB : ∀ w, G w → Calls Tryd.prog 6 #[] w (Ret (.bool true) w)) (hn : x.norm = 0) (hm64 : m < 2 ^ 64) : Calls Tryd.prog 3 #[V12 x, V12 y, .int .u64 ((m : Nat) : Int)] w (Ret (.bool true) w) := by
  have hp0 := Heap.start w
  go_enter Tryd.func3, Tryd.ntmps3
  refine wp_seq_k (fun K1 k1 => ?_)
  refine gs [.alloc (C12 x), .alloc (C12 y), .det (.bool false)] [0, 1, 2] [0, 0, 0] (fun L => [V12 x, V12 y, .int .u64 ((m : Nat) : Int), pt (L.b 0) 0, pt (L.b 1) 0, undef, .bool false] ++ U 86) (fun L => [(L.b 0, C12 x), (L.b 1, C12 y)]) hp0 ⟨
    oB, oB, oA,
    trivial⟩ (fun L0 w1 hp1 => ?_)
  refine k1 _ _ ?_
  refine wp_seq_k (fun K2 k2 => ?_)
  refine wp_seq_k (fun K3 k3 => ?_)
  refine gs [.det (.bool true), .det (.bool false)] [0, 1] [0, 1] (fun L => [V12 x, V12 y, .int .u64 ((m : Nat) : Int), pt (L0.b 0) 0, pt (L0.b 1) 0, undef, .bool false, undef, undef, undef, undef, .bool true, .bool false] ++ U 80) (fun L => [((L0.b 0), C12 x), ((L0.b 1), C12 y)]) hp1 ⟨
    oC K.stay hg hB, oN,
    trivial⟩ (fun L1 w2 hp2 => ?_)
  refine k3 _ _ ?_
  refine wp_cond_false (by kernel_rfl) ?_
  refine skips ?_
  refine k2 _ _ ?_
  refine wp_seq_k (fun K4 k4 => ?_)
  refine wp_seq_k (fun K5 k5 => ?_)
  refine gs [.det (V12 x), .det (.bool true), .det (.bool false), .det (.bool false), .det (V12 y), .det (.bool true), .det (.bool false), .det (.bool false)] [0, 1, 2, 3, 4, 5, 6, 7] [0, 1, 3, 7, 15, 31, 63, 127] (fun L => [V12 x, V12 y, .int .u64 ((m : Nat) : Int), pt (L0.b 0) 0, pt (L0.b 1) 0, undef, .bool false, undef, undef, undef, undef, .bool true, .bool false, V12 x, .bool true, .bool false, .bool false, V12 y, .bool true, .bool false, .bool false] ++ U 72) (fun L => [((L0.b 0), C12 x), ((L0.b 1), C12 y)]) hp2 ⟨
    oL 0 0 r12, oR (ref5May12P R x), oN, oM, oL 1 0 r12, oR (ref5May12P R y), oN, oP,
    trivial⟩ (fun L2 w3 hp3 => ?_)
  refine k5 _ _ ?_
  refine wp_cond_false (by kernel_rfl) ?_
  refine skips ?_
  refine k4 _ _ ?_
  refine wp_seq_k (fun K6 k6 => ?_)
  refine gs [.det (V12 x), .det (.tuple #[V12 0, .int .i64 7]), .det (.tuple #[V12 0, .int .i64 7]), .det (V12 0), .det (.int .i64 7), .alloc (C12 0), .store (.new 5) 0 (C12 0) (C12 0), .det (.int .i64 7)] [0, 1, 2, 3, 4, 5, 6, 7] [0, 1, 3, 7, 7, 0, 47, 127] (fun L => [V12 x, V12 y, .int .u64 ((m : Nat) : Int), pt (L0.b 0) 0, pt (L0.b 1) 0, undef, .bool false, pt (L.b 5) 0, .int .i64 7, undef, undef, .bool true, .bool false, V12 x, .bool true, .bool false, .bool false, V12 y, .bool true, .bool false, .bool false, undef, undef, undef, undef, undef, .tuple #[V12 0, .int .i64 7], V12 x, .tuple #[V12 0, .int .i64 7], V12 0, .int .i64 7] ++ U 62) (fun L => [((L0.b 0), C12 x), ((L0.b 1), C12 y), (L.b 5, C12 0)]) hp3 ⟨
    oL 0 0 r12, oH (v := .tuple #[V12 0, .int .i64 7]) (vs := #[V12 x]) (fun w hb _ => fp12Inv0 K x w (K.stay hg hb) hn), oM, oX, oX, oZ r12, oT r12, oA,
    trivial⟩ (fun L3 w4 hp4 => ?_)
  refine k6 _ _ ?_
  refine wp_seq_k (fun K7 k7 => ?_)
  refine gs [.det (V12 x), .det (.tuple #[V12 0, .int .i64 7]), .det (.tuple #[V12 0, .int .i64 7]), .det (V12 0), .det (.int .i64 7), .alloc (C12 0), .store (.new 5) 0 (C12 0) (C12 0), .det (.int .i64 7)] [0, 1, 2, 3, 4, 5, 6, 7] [0, 1, 3, 7, 7, 0, 47, 127] (fun L => [V12 x, V12 y, .int .u64 ((m : Nat) : Int), pt (L0.b 0) 0, pt (L0.b 1) 0, undef, .bool false, pt (L3.b 5) 0, .int .i64 7, pt (L.b 5) 0, .int .i64 7, .bool true, .bool false, V12 x, .bool true, .bool false, .bool false, V12 y, .bool true, .bool false, .bool false, undef, undef, undef, undef, undef, .tuple #[V12 0, .int .i64 7], V12 x, .tuple #[V12 0, .int .i64 7], V12 0, .int .i64 7, .tuple #[V12 0, .int .i64 7], V12 x, .tuple #[V12 0, .int .i64 7], V12 0, .int .i64 7] ++ U 57) (fun L => [((L0.b 0), C12 x), ((L0.b 1), C12 y), ((L3.b 5), C12 0), (L.b 5, C12 0)]) hp4 ⟨
    oL 0 0 r12, oH (v := .tuple #[V12 0, .int .i64 7]) (vs := #[V12 x]) (fun w _ _ => ref5Inv120 R x w hn), oM, oX, oX, oZ r12, oT r12, oA,
    trivial⟩ (fun L4 w5 hp5 => ?_)
  refine k7 _ _ ?_
  refine wp_seq_k (fun K8 k8 => ?_)
  refine dr [.det (V12 x), .det (V12 y), .det (V12 (x + y)), .det (V12 x), .det (V12 y), .det (V12 (x + y)), .det (.bool true), .det (.bool true), .det (V12 x), .det (V12 y), .det (V12 (x - y)), .det (V12 x), .det (V12 y), .det (V12 (x - y)), .det (.bool true), .det (.bool true), .det (.bool true), .det (V12 x), .det (V12 y), .det (V12 (x * y)), .det (V12 x), .det (V12 y), .det (V12 (x * y)), .det (.bool true), .det (.bool true), .det (.bool true), .det (V12 x), .det (V12 x.conj), .det (V12 x), .det (V12 x.conj), .det (.bool true), .det (.bool true), .det (.bool true), .det (V12 x), .det (.bool true), .det (.bool true), .det (.bool true), .det (V12 0), .det (V12 0), .det (.bool true), .det (.bool true), .det (.bool true), .det (.int .i64 7), .det (.int .i64 7), .det (.bool true), .det (.bool true), .det (.bool true), .det (V12 x), .det (.int .u64 ((m : Nat) : Int)), .any (isOne ((m : Nat) : Int)), .det (V12 (npw x m)), .det (V12 x), .det (.int .u64 ((m : Nat) : Int)), .any (isOne ((m : Nat) : Int)), .det (V12 (npw x m)), .det (.bool true), .det (.bool true), .det (.bool true)] [0, 1, 2, 3, 4, 5, 6, 7, 8, 9, 10, 11, 12, 13, 14, 15, 16, 17, 18, 19, 20, 21, 22, 23, 24, 25, 26, 27, 28, 29, 30, 31, 32, 33, 34, 35, 36, 37, 38, 39, 40, 41, 42, 43, 44, 45, 46, 47, 48, 49, 50, 51, 52, 53, 54, 55, 56, 57] [0, 0, 3, 0, 0, 31, 63, 127, 255, 255, 1023, 255, 255, 8191, 16383, 32767, 65535, 131071, 131071, 524287, 131071, 131071, 4194303, 8388607, 16777215, 33554431, 67108863, 134217727, 67108863, 536870911, 1073741823, 2147483647, 4294967295, 8589934591, 17179869183, 34359738367, 68719476735, 137438953471, 137438953471, 549755813887, 1099511627775, 2199023255551, 4398046511103, 4398046511103, 17592186044415, 35184372088831, 70368744177663, 140737488355327, 140737488355327, 422212465065983, 1125899906842623, 140737488355327, 140737488355327, 4644337115725823, 18014398509481983, 36028797018963967, 72057594037927935, 144115188075855871] (fun L => [V12 x, V12 y, .int .u64 ((m : Nat) : Int), pt (L0.b 0) 0, pt (L0.b 1) 0, undef, .bool true, pt (L3.b 5) 0, .int .i64 7, pt (L4.b 5) 0, .int .i64 7, .bool true, .bool false, V12 x, .bool true, .bool false, .bool false, V12 y, .bool true, .bool false, .bool false, undef, undef, undef, undef, undef, .tuple #[V12 0, .int .i64 7], V12 x, .tuple #[V12 0, .int .i64 7], V12 0, .int .i64 7, .tuple #[V12 0, .int .i64 7], V12 x, .tuple #[V12 0, .int .i64 7], V12 0, .int .i64 7, V12 x, V12 y, V12 (x + y), V12 x, V12 y, V12 (x + y), .bool true, .bool true, V12 x, V12 y, V12 (x - y), V12 x, V12 y, V12 (x - y), .bool true, .bool true, .bool true, V12 x, V12 y, V12 (x * y), V12 x, V12 y, V12 (x * y), .bool true, .bool true, .bool true, V12 x, V12 x.conj, V12 x, V12 x.conj, .bool true, .bool true, .bool true, V12 x, .bool true, .bool true, .bool true, V12 0, V12 0, .bool true, .bool true, .bool true, .int .i64 7, .int .i64 7, .bool true, .bool true, .bool true, V12 x, .int .u64 ((m : Nat) : Int), L.v 49, V12 (npw x m), V12 x, .int .u64 ((m : Nat) : Int), L.v 53, V12 (npw x m), .bool true, .bool true]) (fun L => [((L0.b 0), C12 x), ((L0.b 1), C12 y), ((L3.b 5), C12 0), ((L4.b 5), C12 0)]) hp5 ⟨
    oL 0 0 r12, oL 1 0 r12, oC K.stay hg (fp12Add K x y), oL 0 0 r12, oL 1 0 r12, oR (ref5Add12 R x y), oE (a := (x + y)) (b := (x + y)) q12 (yes rfl), oM, oL 0 0 r12,
    oL 1 0 r12, oC K.stay hg (fp12Sub K x y), oL 0 0 r12, oL 1 0 r12, oR (ref5Sub12 R x y), oE (a := (x - y)) (b := (x - y)) q12 (yes rfl), oP, oM, oL 0 0 r12, oL 1 0 r12,
    oC K.stay hg (fp12Mul K x y), oL 0 0 r12, oL 1 0 r12, oR (ref5Mul12 R x y), oE (a := (x * y)) (b := (x * y)) q12 (yes rfl), oP, oM, oL 0 0 r12, oC K.stay hg (fp12Conj K x),
    oL 0 0 r12, oR (ref5Conj12 R x), oE (a := x.conj) (b := x.conj) q12 (yes rfl), oP, oM, oL 0 0 r12, oC K.stay hg (fp12MayP K x), oP, oM, oL 2 0 r12, oL 3 0 r12,
    oE (a := 0) (b := 0) q12 (yes rfl), oP, oM, oM, oM, oJ .i64 .i64 7 7 (h := fun w => (eqlI _ _ _ _ w).trans rfl), oP, oM, oL 0 0 r12, oM, oS1 Tryd.underlying39 (by kernel_rfl) (by kernel_rfl),
    oCS (fun L => #[V12 x, L.v 49]) (fun L w hs => powOne K x m _ w (K.stay hg hs.bel) hm64 (hs.any 49 _ rfl rfl)), oL 0 0 r12, oM, oS1 Tryd.underlying39 (by kernel_rfl) (by kernel_rfl),
    oCS (fun L => #[V12 x, L.v 53]) (fun L w hs => refPowOne R x m _ w hm64 (hs.any 53 _ rfl rfl)), oE (a := (npw x m)) (b := (npw x m)) q12 (yes rfl), oP, oA,
    trivial⟩ (fun L5 w6 hp6 => ?_)
  refine k8 _ _ ?_
  refine wp_ret ?_
  refine bodyPost_ret (v := .bool true) ?_ rfl ?_
  · exact res_t rfl (by kernel_rfl) _
  · exact ⟨rfl, hp6.bel⟩
set_option maxHeartbeats 4000000 in
theorem twel3 {G : World → Prop} (K : FpK G) (R : RefK) (x y : F12) (m : Nat) (w : World) (hg : G w) (hB : ∀ w, G w → Calls Tryd.prog 6 #[] w (Ret (.bool true) w)) (hn : x.norm ≠ 0) (hm64 : m < 2 ^ 64) : Calls Tryd.prog 3 #[V12 x, V12 y, .int .u64 ((m : Nat) : Int)] w (Ret (.bool true) w) := by
  have hp0 := Heap.start w
  go_enter Tryd.func3, Tryd.ntmps3
  refine wp_seq_k (fun K1 k1 => ?_)
  refine gs [.alloc (C12 x), .alloc (C12 y), .det (.bool false)] [0, 1, 2] [0, 0, 0] (fun L => [V12 x, V12 y, .int .u64 ((m : Nat) : Int), pt (L.b 0) 0, pt (L.b 1) 0, undef, .bool false] ++ U 86) (fun L => [(L.b 0, C12 x), (L.b 1, C12 y)]) hp0 ⟨
    oB, oB, oA,
    trivial⟩ (fun L0 w1 hp1 => ?_)
  refine k1 _ _ ?_
  refine wp_seq_k (fun K2 k2 => ?_)
  refine wp_seq_k (fun K3 k3 => ?_)
  refine gs [.det (.bool true), .det (.bool false)] [0, 1] [0, 1] (fun L => [V12 x, V12 y, .int .u64 ((m : Nat) : Int), pt (L0.b 0) 0, pt (L0.b 1) 0, undef, .bool false, undef, undef, undef, undef, .bool true, .bool false] ++ U 80) (fun L => [((L0.b 0), C12 x), ((L0.b 1), C12 y)]) hp1 ⟨
    oC K.stay hg hB, oN,
    trivial⟩ (fun L1 w2 hp2 => ?_)
  refine k3 _ _ ?_
  refine wp_cond_false (by kernel_rfl) ?_
  refine skips ?_
  refine k2 _ _ ?_
  refine wp_seq_k (fun K4 k4 => ?_)
  refine wp_seq_k (fun K5 k5 => ?_)
  refine gs [.det (V12 x), .det (.bool true), .det (.bool false), .det (.bool false), .det (V12 y), .det (.bool true), .det (.bool false), .det (.bool false)] [0, 1, 2, 3, 4, 5, 6, 7] [0, 1, 3, 7, 15, 31, 63, 127] (fun L => [V12 x, V12 y, .int .u64 ((m : Nat) : Int), pt (L0.b 0) 0, pt (L0.b 1) 0, undef, .bool false, undef, undef, undef, undef, .bool true, .bool false, V12 x, .bool true, .bool false, .bool false, V12 y, .bool true, .bool false, .bool false] ++ U 72) (fun L => [((L0.b 0), C12 x), ((L0.b 1), C12 y)]) hp2 ⟨
    oL 0 0 r12, oR (ref5May12P R x), oN, oM, oL 1 0 r12, oR (ref5May12P R y), oN, oP,
    trivial⟩ (fun L2 w3 hp3 => ?_)
  refine k5 _ _ ?_
  refine wp_cond_false (by kernel_rfl) ?_
  refine skips ?_
  refine k4 _ _ ?_
  refine wp_seq_k (fun K6 k6 => ?_)
  refine gs [.det (V12 x), .det (.tuple #[V12 x.inv, .int .i64 0]), .det (.tuple #[V12 x.inv, .int .i64 0]), .det (V12 x.inv), .det (.int .i64 0), .alloc (C12 0), .store (.new 5) 0 (C12 x.inv) (C12 x.inv), .det (.int .i64 0)] [0, 1, 2, 3, 4, 5, 6, 7] [0, 1, 3, 7, 7, 0, 47, 127] (fun L => [V12 x, V12 y, .int .u64 ((m : Nat) : Int), pt (L0.b 0) 0, pt (L0.b 1) 0, undef, .bool false, pt (L.b 5) 0, .int .i64 0, undef, undef, .bool true, .bool false, V12 x, .bool true, .bool false, .bool false, V12 y, .bool true, .bool false, .bool false, undef, undef, undef, undef, undef, .tuple #[V12 x.inv, .int .i64 0], V12 x, .tuple #[V12 x.inv, .int .i64 0], V12 x.inv, .int .i64 0] ++ U 62) (fun L => [((L0.b 0), C12 x), ((L0.b 1), C12 y), (L.b 5, C12 x.inv)]) hp3 ⟨
    oL 0 0 r12, oH (v := .tuple #[V12 x.inv, .int .i64 0]) (vs := #[V12 x]) (fun w hb _ => fp12Inv K x w (K.stay hg hb) hn), oM, oX, oX, oZ r12, oT r12, oA,
    trivial⟩ (fun L3 w4 hp4 => ?_)
  refine k6 _ _ ?_
  refine wp_seq_k (fun K7 k7 => ?_)
  refine gs [.det (V12 x), .det (.tuple #[V12 x.inv, .int .i64 0]), .det (.tuple #[V12 x.inv, .int .i64 0]), .det (V12 x.inv), .det (.int .i64 0), .alloc (C12 0), .store (.new 5) 0 (C12 x.inv) (C12 x.inv), .det (.int .i64 0)] [0, 1, 2, 3, 4, 5, 6, 7] [0, 1, 3, 7, 7, 0, 47, 127] (fun L => [V12 x, V12 y, .int .u64 ((m : Nat) : Int), pt (L0.b 0) 0, pt (L0.b 1) 0, undef, .bool false, pt (L3.b 5) 0, .int .i64 0, pt (L.b 5) 0, .int .i64 0, .bool true, .bool false, V12 x, .bool true, .bool false, .bool false, V12 y, .bool true, .bool false, .bool false, undef, undef, undef, undef, undef, .tuple #[V12 x.inv, .int .i64 0], V12 x, .tuple #[V12 x.inv, .int .i64 0], V12 x.inv, .int .i64 0, .tuple #[V12 x.inv, .int .i64 0], V12 x, .tuple #[V12 x.inv, .int .i64 0], V12 x.inv, .int .i64 0] ++ U 57) (fun L => [((L0.b 0), C12 x), ((L0.b 1), C12 y), ((L3.b 5), C12 x.inv), (L.b 5, C12 x.inv)]) hp4 ⟨
    oL 0 0 r12, oH (v := .tuple #[V12 x.inv, .int .i64 0]) (vs := #[V12 x]) (fun w _ _ => ref5Inv12 R x w hn), oM, oX, oX, oZ r12, oT r12, oA,
    trivial⟩ (fun L4 w5 hp5 => ?_)
  refine k7 _ _ ?_
  refine wp_seq_k (fun K8 k8 => ?_)
  refine dr [.det (V12 x), .det (V12 y), .det (V12 (x + y)), .det (V12 x), .det (V12 y), .det (V12 (x + y)), .det (.bool true), .det (.bool true), .det (V12 x), .det (V12 y), .det (V12 (x - y)), .det (V12 x), .det (V12 y), .det (V12 (x - y)), .det (.bool true), .det (.bool true), .det (.bool true), .det (V12 x), .det (V12 y), .det (V12 (x * y)), .det (V12 x), .det (V12 y), .det (V12 (x * y)), .det (.bool true), .det (.bool true), .det (.bool true), .det (V12 x), .det (V12 x.conj), .det (V12 x), .det (V12 x.conj), .det (.bool true), .det (.bool true), .det (.bool true), .det (V12 x), .det (.bool true), .det (.bool true), .det (.bool true), .det (V12 x.inv), .det (V12 x.inv), .det (.bool true), .det (.bool true), .det (.bool true), .det (.int .i64 0), .det (.int .i64 0), .det (.bool true), .det (.bool true), .det (.bool true), .det (V12 x), .det (.int .u64 ((m : Nat) : Int)), .any (isOne ((m : Nat) : Int)), .det (V12 (npw x m)), .det (V12 x), .det (.int .u64 ((m : Nat) : Int)), .any (isOne ((m : Nat) : Int)), .det (V12 (npw x m)), .det (.bool true), .det (.bool true), .det (.bool true)] [0, 1, 2, 3, 4, 5, 6, 7, 8, 9, 10, 11, 12, 13, 14, 15, 16, 17, 18, 19, 20, 21, 22, 23, 24, 25, 26, 27, 28, 29, 30, 31, 32, 33, 34, 35, 36, 37, 38, 39, 40, 41, 42, 43, 44, 45, 46, 47, 48, 49, 50, 51, 52, 53, 54, 55, 56, 57] [0, 0, 3, 0, 0, 31, 63, 127, 255, 255, 1023, 255, 255, 8191, 16383, 32767, 65535, 131071, 131071, 524287, 131071, 131071, 4194303, 8388607, 16777215, 33554431, 67108863, 134217727, 67108863, 536870911, 1073741823, 2147483647, 4294967295, 8589934591, 17179869183, 34359738367, 68719476735, 137438953471, 137438953471, 549755813887, 1099511627775, 2199023255551, 4398046511103, 4398046511103, 17592186044415, 35184372088831, 70368744177663, 140737488355327, 140737488355327, 422212465065983, 1125899906842623, 140737488355327, 140737488355327, 4644337115725823, 18014398509481983, 36028797018963967, 72057594037927935, 144115188075855871] (fun L => [V12 x, V12 y, .int .u64 ((m : Nat) : Int), pt (L0.b 0) 0, pt (L0.b 1) 0, undef, .bool true, pt (L3.b 5) 0, .int .i64 0, pt (L4.b 5) 0, .int .i64 0, .bool true, .bool false, V12 x, .bool true, .bool false, .bool false, V12 y, .bool true, .bool false, .bool false, undef, undef, undef, undef, undef, .tuple #[V12 x.inv, .int .i64 0], V12 x, .tuple #[V12 x.inv, .int .i64 0], V12 x.inv, .int .i64 0, .tuple #[V12 x.inv, .int .i64 0], V12 x, .tuple #[V12 x.inv, .int .i64 0], V12 x.inv, .int .i64 0, V12 x, V12 y, V12 (x + y), V12 x, V12 y, V12 (x + y), .bool true, .bool true, V12 x, V12 y, V12 (x - y), V12 x, V12 y, V12 (x - y), .bool true, .bool true, .bool true, V12 x, V12 y, V12 (x * y), V12 x, V12 y, V12 (x * y), .bool true, .bool true, .bool true, V12 x, V12 x.conj, V12 x, V12 x.conj, .bool true, .bool true, .bool true, V12 x, .bool true, .bool true, .bool true, V12 x.inv, V12 x.inv, .bool true, .bool true, .bool true, .int .i64 0, .int .i64 0, .bool true, .bool true, .bool true, V12 x, .int .u64 ((m : Nat) : Int), L.v 49, V12 (npw x m), V12 x, .int .u64 ((m : Nat) : Int), L.v 53, V12 (npw x m), .bool true, .bool true]) (fun L => [((L0.b 0), C12 x), ((L0.b 1), C12 y), ((L3.b 5), C12 x.inv), ((L4.b 5), C12 x.inv)]) hp5 ⟨
    oL 0 0 r12, oL 1 0 r12, oC K.stay hg (fp12Add K x y), oL 0 0 r12, oL 1 0 r12, oR (ref5Add12 R x y), oE (a := (x + y)) (b := (x + y)) q12 (yes rfl), oM, oL 0 0 r12,
    oL 1 0 r12, oC K.stay hg (fp12Sub K x y), oL 0 0 r12, oL 1 0 r12, oR (ref5Sub12 R x y), oE (a := (x - y)) (b := (x - y)) q12 (yes rfl), oP, oM, oL 0 0 r12, oL 1 0 r12,
    oC K.stay hg (fp12Mul K x y), oL 0 0 r12, oL 1 0 r12, oR (ref5Mul12 R x y), oE (a := (x * y)) (b := (x * y)) q12 (yes rfl), oP, oM, oL 0 0 r12, oC K.stay hg (fp12Conj K x),
    oL 0 0 r12, oR (ref5Conj12 R x), oE (a := x.conj) (b := x.conj) q12 (yes rfl), oP, oM, oL 0 0 r12, oC K.stay hg (fp12MayP K x), oP, oM, oL 2 0 r12, oL 3 0 r12,
    oE (a := x.inv) (b := x.inv) q12 (yes rfl), oP, oM, oM, oM, oJ .i64 .i64 0 0 (h := fun w => (eqlI _ _ _ _ w).trans rfl), oP, oM, oL 0 0 r12, oM, oS1 Tryd.underlying39 (by kernel_rfl) (by kernel_rfl),
    oCS (fun L => #[V12 x, L.v 49]) (fun L w hs => powOne K x m _ w (K.stay hg hs.bel) hm64 (hs.any 49 _ rfl rfl)), oL 0 0 r12, oM, oS1 Tryd.underlying39 (by kernel_rfl) (by kernel_rfl),
    oCS (fun L => #[V12 x, L.v 53]) (fun L w hs => refPowOne R x m _ w hm64 (hs.any 53 _ rfl rfl)), oE (a := (npw x m)) (b := (npw x m)) q12 (yes rfl), oP, oA,
    trivial⟩ (fun L5 w6 hp6 => ?_)
  refine k8 _ _ ?_
  refine wp_ret ?_
  refine bodyPost_ret (v := .bool true) ?_ rfl ?_
  · exact res_t rfl (by kernel_rfl) _
  · exact ⟨rfl, hp6.bel⟩
/-- What Fp12All answers. -/
theorem fp12All_walk {G : World → Prop} (K : FpK G) (R : RefK) (f0a g0a f0b g0b f0c g0c f0d g0d f0e g0e f0f g0f f1a g1a f1b g1b f1c g1c f1d g1d f1e g1e f1f g1f : Nat → Int) (k : Int) (rf0a : Rg f0a 6) (rg0a : Rg g0a 6) (rf0b : Rg f0b 6) (rg0b : Rg g0b 6) (rf0c : Rg f0c 6) (rg0c : Rg g0c 6) (rf0d : Rg f0d 6) (rg0d : Rg g0d 6) (rf0e : Rg f0e 6) (rg0e : Rg g0e 6) (rf0f : Rg f0f 6) (rg0f : Rg g0f 6) (rf1a : Rg f1a 6) (rg1a : Rg g1a 6) (rf1b : Rg f1b 6) (rg1b : Rg g1b 6) (rf1c : Rg f1c 6) (rg1c : Rg g1c 6) (rf1d : Rg f1d 6) (rg1d : Rg g1d 6) (rf1e : Rg f1e 6) (rg1e : Rg g1e 6) (rf1f : Rg f1f 6) (rg1f : Rg g1f 6) (hk : 0 ≤ k ∧ k < 2 ^ 64) (w : World) (hg : G w) :
    Calls Tryd.prog 3 #[QV12 f0a g0a f0b g0b f0c g0c f0d g0d f0e g0e f0f g0f, QV12 f1a g1a f1b g1b f1c g1c f1d g1d f1e g1e f1f g1f, .int .u64 k] w (Ret (.bool true) w) := by
  have hB := fun w hg => begun7 K w hg
  obtain ⟨m, rfl⟩ : ∃ m : Nat, k = (m : Int) := ⟨k.toNat, (Int.toNat_of_nonneg hk.1).symm⟩
  have hm : m < 2 ^ 64 := by omega
  rcases six_or K R f0a g0a f0b g0b f0c g0c f0d g0d f0e g0e f0f g0f rf0a rg0a rf0b rg0b rf0c rg0c rf0d rg0d rf0e rg0e rf0f rg0f with ⟨⟨x, hx⟩, h1, h2⟩ | ⟨h1, h2⟩
  · rcases six_or K R f1a g1a f1b g1b f1c g1c f1d g1d f1e g1e f1f g1f rf1a rg1a rf1b rg1b rf1c rg1c rf1d rg1d rf1e rg1e rf1f rg1f with ⟨⟨y, hy⟩, h3, h4⟩ | ⟨h3, h4⟩
    · rw [hx, hy]
      by_cases hn : x.norm = 0
      · exact twel2 K R x y m w hg hB hn hm
      · exact twel3 K R x y m w hg hB hn hm
    · exact twel1 K R f0a g0a f0b g0b f0c g0c f0d g0d f0e g0e f0f g0f f1a g1a f1b g1b f1c g1c f1d g1d f1e g1e f1f g1f m w hg hB h1 h2 h3
  · exact twel0 K R f0a g0a f0b g0b f0c g0c f0d g0d f0e g0e f0f g0f f1a g1a f1b g1b f1c g1c f1d g1d f1e g1e f1f g1f m w hg hB h1 h2
end Go.Proofs.YtbncpnkjeadolaaDoor.fpn
