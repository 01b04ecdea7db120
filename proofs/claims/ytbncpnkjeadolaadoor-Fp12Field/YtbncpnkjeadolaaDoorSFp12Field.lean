/- Fp12AllWalk Fp12FieldWalk. -/
import Derived.Test.YtbncpnkjeadolaaDoorGG
/- Fp12All walked. -/
namespace Go.Proofs.YtbncpnkjeadolaaDoor.fpn
open Go.RowKit Pl
set_option linter.unusedVariables false
set_option linter.unusedSimpArgs false
set_option maxRecDepth 4000

/-- Limbs are a six, or may not be one. -/
theorem three_of {f g f2 g2 f3 g3 : Nat → Int} (rf : Rg f 6) (rg : Rg g 6) (rf2 : Rg f2 6) (rg2 : Rg g2 6) (rf3 : Rg f3 6) (rg3 : Rg g3 6) (h : may6 f g f2 g2 f3 g3 = true) : ∃ x : F6, QV6 f g f2 g2 f3 g3 = V6 x := by
  simp only [may6, may2, Bool.and_eq_true, decide_eq_true_eq] at h
  obtain ⟨⟨l0, l1⟩, ⟨l2, l3⟩, l4, l5⟩ := h
  obtain ⟨a, ha, -⟩ := num_of rf l0
  obtain ⟨b, hb, -⟩ := num_of rg l1
  obtain ⟨c, hc, -⟩ := num_of rf2 l2
  obtain ⟨d, hd, -⟩ := num_of rg2 l3
  obtain ⟨e, he, -⟩ := num_of rf3 l4
  obtain ⟨i, hi, -⟩ := num_of rg3 l5
  exact ⟨⟨⟨a, b⟩, ⟨c, d⟩, ⟨e, i⟩⟩, QV6_of (x := ⟨⟨a, b⟩, ⟨c, d⟩, ⟨e, i⟩⟩) ha hb hc hd he hi⟩
theorem six_or {G : World → Prop} (K : FpK G) (R : RefK) (f0a g0a f0b g0b f0c g0c f0d g0d f0e g0e f0f g0f : Nat → Int) (rf0a : Rg f0a 6) (rg0a : Rg g0a 6) (rf0b : Rg f0b 6) (rg0b : Rg g0b 6) (rf0c : Rg f0c 6) (rg0c : Rg g0c 6) (rf0d : Rg f0d 6) (rg0d : Rg g0d 6) (rf0e : Rg f0e 6) (rg0e : Rg g0e 6) (rf0f : Rg f0f 6) (rg0f : Rg g0f 6) :
    ((∃ x : F12, QV12 f0a g0a f0b g0b f0c g0c f0d g0d f0e g0e f0f g0f = V12 x) ∧ (∀ w, G w → Calls Tryd.prog 7 #[QV12 f0a g0a f0b g0b f0c g0c f0d g0d f0e g0e f0f g0f] w (Ret (.bool true) w)) ∧ (∀ w, G w → Calls Tryd.prog 8 #[QV12 f0a g0a f0b g0b f0c g0c f0d g0d f0e g0e f0f g0f] w (Ret (.bool true) w))) ∨
    ((∀ w, G w → Calls Tryd.prog 7 #[QV12 f0a g0a f0b g0b f0c g0c f0d g0d f0e g0e f0f g0f] w (Ret (.bool false) w)) ∧ (∀ w, G w → Calls Tryd.prog 8 #[QV12 f0a g0a f0b g0b f0c g0c f0d g0d f0e g0e f0f g0f] w (Ret (.bool false) w))) := by
  have h1 := fun w => ref5May12 R f0a g0a f0b g0b f0c g0c f0d g0d f0e g0e f0f g0f w rf0a rg0a rf0b rg0b rf0c rg0c rf0d rg0d rf0e rg0e rf0f rg0f
  have h2 := fun w hg => fp12May K f0a g0a f0b g0b f0c g0c f0d g0d f0e g0e f0f g0f w hg rf0a rg0a rf0b rg0b rf0c rg0c rf0d rg0d rf0e rg0e rf0f rg0f
  cases h : (may6 f0a g0a f0b g0b f0c g0c && may6 f0d g0d f0e g0e f0f g0f) with
  | false =>
    rw [h] at h1 h2
    exact .inr ⟨fun w _ => h1 w, h2⟩
  | true =>
    rw [h] at h1 h2
    rw [Bool.and_eq_true] at h
    obtain ⟨x, hx⟩ := three_of rf0a rg0a rf0b rg0b rf0c rg0c h.1
    obtain ⟨y, hy⟩ := three_of rf0d rg0d rf0e rg0e rf0f rg0f h.2
    exact .inl ⟨⟨⟨x, y⟩, QV12_of (x := ⟨x, y⟩) hx hy⟩, fun w _ => h1 w, h2⟩
set_option maxHeartbeats 4000000 in
theorem twel0 {G : World → Prop} (K : FpK G) (R : RefK) (f0a g0a f0b g0b f0c g0c f0d g0d f0e g0e f0f g0f f1a g1a f1b g1b f1c g1c f1d g1d f1e g1e f1f g1f : Nat → Int) (m : Nat) (w : World) (hg : G w) (hB : ∀ w, G w → Calls Tryd.prog 6 #[] w (Ret (.bool true) w)) (hm : ∀ w, G w → Calls Tryd.prog 7 #[QV12 f0a g0a f0b g0b f0c g0c f0d g0d f0e g0e f0f g0f] w (Ret (.bool false) w)) (hm2 : ∀ w, G w → Calls Tryd.prog 8 #[QV12 f0a g0a f0b g0b f0c g0c f0d g0d f0e g0e f0f g0f] w (Ret (.bool false) w)) : Calls Tryd.prog 3 #[QV12 f0a g0a f0b g0b f0c g0c f0d g0d f0e g0e f0f g0f, QV12 f1a g1a f1b g1b f1c g1c f1d g1d f1e g1e f1f g1f, .int .u64 ((m : Nat) : Int)] w (Ret (.bool true) w) := by
  have hp0 := Heap.start w
  go_enter Tryd.func3, Tryd.ntmps3
  refine wp_seq_k (fun K1 k1 => ?_)
  refine gs [.alloc (QC12 f0a g0a f0b g0b f0c g0c f0d g0d f0e g0e f0f g0f), .alloc (QC12 f1a g1a f1b g1b f1c g1c f1d g1d f1e g1e f1f g1f), .det (.bool false)] [0, 1, 2] [0, 0, 0] (fun L => [QV12 f0a g0a f0b g0b f0c g0c f0d g0d f0e g0e f0f g0f, QV12 f1a g1a f1b g1b f1c g1c f1d g1d f1e g1e f1f g1f, .int .u64 ((m : Nat) : Int), pt (L.b 0) 0, pt (L.b 1) 0, undef, .bool false] ++ U 86) (fun L => [(L.b 0, QC12 f0a g0a f0b g0b f0c g0c f0d g0d f0e g0e f0f g0f), (L.b 1, QC12 f1a g1a f1b g1b f1c g1c f1d g1d f1e g1e f1f g1f)]) hp0 ⟨
    oB, oB, oA,
    trivial⟩ (fun L0 w1 hp1 => ?_)
  refine k1 _ _ ?_
  refine wp_seq_k (fun K2 k2 => ?_)
  refine wp_seq_k (fun K3 k3 => ?_)
  refine gs [.det (.bool true), .det (.bool false)] [0, 1] [0, 1] (fun L => [QV12 f0a g0a f0b g0b f0c g0c f0d g0d f0e g0e f0f g0f, QV12 f1a g1a f1b g1b f1c g1c f1d g1d f1e g1e f1f g1f, .int .u64 ((m : Nat) : Int), pt (L0.b 0) 0, pt (L0.b 1) 0, undef, .bool false, undef, undef, undef, undef, .bool true, .bool false] ++ U 80) (fun L => [((L0.b 0), QC12 f0a g0a f0b g0b f0c g0c f0d g0d f0e g0e f0f g0f), ((L0.b 1), QC12 f1a g1a f1b g1b f1c g1c f1d g1d f1e g1e f1f g1f)]) hp1 ⟨
    oC K.stay hg hB, oN,
    trivial⟩ (fun L1 w2 hp2 => ?_)
  refine k3 _ _ ?_
  refine wp_cond_false (by kernel_rfl) ?_
  refine skips ?_
  refine k2 _ _ ?_
  refine wp_seq_k (fun K4 k4 => ?_)
  refine wp_seq_k (fun K5 k5 => ?_)
  refine gs [.det (QV12 f0a g0a f0b g0b f0c g0c f0d g0d f0e g0e f0f g0f), .det (.bool false), .det (.bool true), .det (.bool true), .det undef, .det undef, .det undef, .det (.bool true)] [0, 1, 2, 3, 4, 5, 6, 7] [0, 1, 3, 7, 15, 31, 63, 127] (fun L => [QV12 f0a g0a f0b g0b f0c g0c f0d g0d f0e g0e f0f g0f, QV12 f1a g1a f1b g1b f1c g1c f1d g1d f1e g1e f1f g1f, .int .u64 ((m : Nat) : Int), pt (L0.b 0) 0, pt (L0.b 1) 0, undef, .bool false, undef, undef, undef, undef, .bool true, .bool false, QV12 f0a g0a f0b g0b f0c g0c f0d g0d f0e g0e f0f g0f, .bool false, .bool true, .bool true, undef, undef, undef, .bool true] ++ U 72) (fun L => [((L0.b 0), QC12 f0a g0a f0b g0b f0c g0c f0d g0d f0e g0e f0f g0f), ((L0.b 1), QC12 f1a g1a f1b g1b f1c g1c f1d g1d f1e g1e f1f g1f)]) hp2 ⟨
    oL 0 0 r12, oC K.stay hg hm, oN, oM, oS, oS, oS, oP,
    trivial⟩ (fun L2 w3 hp3 => ?_)
  refine k5 _ _ ?_
  refine wp_cond_true (by kernel_rfl) ?_
  refine wp_seq_k (fun K6 k6 => ?_)
  refine dr [.det (QV12 f0a g0a f0b g0b f0c g0c f0d g0d f0e g0e f0f g0f), .det (.bool false), .det (QV12 f0a g0a f0b g0b f0c g0c f0d g0d f0e g0e f0f g0f), .det (.bool false), .det (.bool true), .det (.bool true)] [0, 1, 2, 3, 4, 5] [0, 1, 0, 7, 15, 31] (fun L => [QV12 f0a g0a f0b g0b f0c g0c f0d g0d f0e g0e f0f g0f, QV12 f1a g1a f1b g1b f1c g1c f1d g1d f1e g1e f1f g1f, .int .u64 ((m : Nat) : Int), pt (L0.b 0) 0, pt (L0.b 1) 0, undef, .bool true, undef, undef, undef, undef, .bool true, .bool false, QV12 f0a g0a f0b g0b f0c g0c f0d g0d f0e g0e f0f g0f, .bool false, .bool true, .bool true, undef, undef, undef, .bool true, QV12 f0a g0a f0b g0b f0c g0c f0d g0d f0e g0e f0f g0f, .bool false, QV12 f0a g0a f0b g0b f0c g0c f0d g0d f0e g0e f0f g0f, .bool false, .bool true] ++ U 67) (fun L => [((L0.b 0), QC12 f0a g0a f0b g0b f0c g0c f0d g0d f0e g0e f0f g0f), ((L0.b 1), QC12 f1a g1a f1b g1b f1c g1c f1d g1d f1e g1e f1f g1f)]) hp3 ⟨
    oL 0 0 r12, oC K.stay hg hm2, oL 0 0 r12, oC K.stay hg hm, oE (a := false) (b := false) qB (yes rfl), oA,
    trivial⟩ (fun L3 w4 hp4 => ?_)
  refine k6 _ _ ?_
  refine wp_ret ?_
  refine bodyPost_ret (v := .bool true) ?_ rfl ?_
  · exact res_t rfl (by kernel_rfl) _
  · exact ⟨rfl, hp4.bel⟩
set_option maxHeartbeats 4000000 in
theorem twel1 {G : World → Prop} (K : FpK G) (R : RefK) (f0a g0a f0b g0b f0c g0c f0d g0d f0e g0e f0f g0f f1a g1a f1b g1b f1c g1c f1d g1d f1e g1e f1f g1f : Nat → Int) (m : Nat) (w : World) (hg : G w) (hB : ∀ w, G w → Calls Tryd.prog 6 #[] w (Ret (.bool true) w)) (hm : ∀ w, G w → Calls Tryd.prog 7 #[QV12 f0a g0a f0b g0b f0c g0c f0d g0d f0e g0e f0f g0f] w (Ret (.bool true) w)) (hm2 : ∀ w, G w → Calls Tryd.prog 8 #[QV12 f0a g0a f0b g0b f0c g0c f0d g0d f0e g0e f0f g0f] w (Ret (.bool true) w)) (hn : ∀ w, G w → Calls Tryd.prog 7 #[QV12 f1a g1a f1b g1b f1c g1c f1d g1d f1e g1e f1f g1f] w (Ret (.bool false) w)) : Calls Tryd.prog 3 #[QV12 f0a g0a f0b g0b f0c g0c f0d g0d f0e g0e f0f g0f, QV12 f1a g1a f1b g1b f1c g1c f1d g1d f1e g1e f1f g1f, .int .u64 ((m : Nat) : Int)] w (Ret (.bool true) w) := by
  have hp0 := Heap.start w
  go_enter Tryd.func3, Tryd.ntmps3
  refine wp_seq_k (fun K1 k1 => ?_)
  refine gs [.alloc (QC12 f0a g0a f0b g0b f0c g0c f0d g0d f0e g0e f0f g0f), .alloc (QC12 f1a g1a f1b g1b f1c g1c f1d g1d f1e g1e f1f g1f), .det (.bool false)] [0, 1, 2] [0, 0, 0] (fun L => [QV12 f0a g0a f0b g0b f0c g0c f0d g0d f0e g0e f0f g0f, QV12 f1a g1a f1b g1b f1c g1c f1d g1d f1e g1e f1f g1f, .int .u64 ((m : Nat) : Int), pt (L.b 0) 0, pt (L.b 1) 0, undef, .bool false] ++ U 86) (fun L => [(L.b 0, QC12 f0a g0a f0b g0b f0c g0c f0d g0d f0e g0e f0f g0f), (L.b 1, QC12 f1a g1a f1b g1b f1c g1c f1d g1d f1e g1e f1f g1f)]) hp0 ⟨
    oB, oB, oA,
    trivial⟩ (fun L0 w1 hp1 => ?_)
  refine k1 _ _ ?_
  refine wp_seq_k (fun K2 k2 => ?_)
  refine wp_seq_k (fun K3 k3 => ?_)
  refine gs [.det (.bool true), .det (.bool false)] [0, 1] [0, 1] (fun L => [QV12 f0a g0a f0b g0b f0c g0c f0d g0d f0e g0e f0f g0f, QV12 f1a g1a f1b g1b f1c g1c f1d g1d f1e g1e f1f g1f, .int .u64 ((m : Nat) : Int), pt (L0.b 0) 0, pt (L0.b 1) 0, undef, .bool false, undef, undef, undef, undef, .bool true, .bool false] ++ U 80) (fun L => [((L0.b 0), QC12 f0a g0a f0b g0b f0c g0c f0d g0d f0e g0e f0f g0f), ((L0.b 1), QC12 f1a g1a f1b g1b f1c g1c f1d g1d f1e g1e f1f g1f)]) hp1 ⟨
    oC K.stay hg hB, oN,
    trivial⟩ (fun L1 w2 hp2 => ?_)
  refine k3 _ _ ?_
  refine wp_cond_false (by kernel_rfl) ?_
  refine skips ?_
  refine k2 _ _ ?_
  refine wp_seq_k (fun K4 k4 => ?_)
  refine wp_seq_k (fun K5 k5 => ?_)
  refine gs [.det (QV12 f0a g0a f0b g0b f0c g0c f0d g0d f0e g0e f0f g0f), .det (.bool true), .det (.bool false), .det (.bool false), .det (QV12 f1a g1a f1b g1b f1c g1c f1d g1d f1e g1e f1f g1f), .det (.bool false), .det (.bool true), .det (.bool true)] [0, 1, 2, 3, 4, 5, 6, 7] [0, 1, 3, 7, 15, 31, 63, 127] (fun L => [QV12 f0a g0a f0b g0b f0c g0c f0d g0d f0e g0e f0f g0f, QV12 f1a g1a f1b g1b f1c g1c f1d g1d f1e g1e f1f g1f, .int .u64 ((m : Nat) : Int), pt (L0.b 0) 0, pt (L0.b 1) 0, undef, .bool false, undef, undef, undef, undef, .bool true, .bool false, QV12 f0a g0a f0b g0b f0c g0c f0d g0d f0e g0e f0f g0f, .bool true, .bool false, .bool false, QV12 f1a g1a f1b g1b f1c g1c f1d g1d f1e g1e f1f g1f, .bool false, .bool true, .bool true] ++ U 72) (fun L => [((L0.b 0), QC12 f0a g0a f0b g0b f0c g0c f0d g0d f0e g0e f0f g0f), ((L0.b 1), QC12 f1a g1a f1b g1b f1c g1c f1d g1d f1e g1e f1f g1f)]) hp2 ⟨
    oL 0 0 r12, oC K.stay hg hm, oN, oM, oL 1 0 r12, oC K.stay hg hn, oN, oP,
    trivial⟩ (fun L2 w3 hp3 => ?_)
  refine k5 _ _ ?_
  refine wp_cond_true (by kernel_rfl) ?_
  refine wp_seq_k (fun K6 k6 => ?_)
  refine dr [.det (QV12 f0a g0a f0b g0b f0c g0c f0d g0d f0e g0e f0f g0f), .det (.bool true), .det (QV12 f0a g0a f0b g0b f0c g0c f0d g0d f0e g0e f0f g0f), .det (.bool true), .det (.bool true), .det (.bool true)] [0, 1, 2, 3, 4, 5] [0, 1, 0, 7, 15, 31] (fun L => [QV12 f0a g0a f0b g0b f0c g0c f0d g0d f0e g0e f0f g0f, QV12 f1a g1a f1b g1b f1c g1c f1d g1d f1e g1e f1f g1f, .int .u64 ((m : Nat) : Int), pt (L0.b 0) 0, pt (L0.b 1) 0, undef, .bool true, undef, undef, undef, undef, .bool true, .bool false, QV12 f0a g0a f0b g0b f0c g0c f0d g0d f0e g0e f0f g0f, .bool true, .bool false, .bool false, QV12 f1a g1a f1b g1b f1c g1c f1d g1d f1e g1e f1f g1f, .bool false, .bool true, .bool true, QV12 f0a g0a f0b g0b f0c g0c f0d g0d f0e g0e f0f g0f, .bool true, QV12 f0a g0a f0b g0b f0c g0c f0d g0d f0e g0e f0f g0f, .bool true, .bool true] ++ U 67) (fun L => [((L0.b 0), QC12 f0a g0a f0b g0b f0c g0c f0d g0d f0e g0e f0f g0f), ((L0.b 1), QC12 f1a g1a f1b g1b f1c g1c f1d g1d f1e g1e f1f g1f)]) hp3 ⟨
    oL 0 0 r12, oC K.stay hg hm2, oL 0 0 r12, oC K.stay hg hm, oE (a := true) (b := true) qB (yes rfl), oA,
    trivial⟩ (fun L3 w4 hp4 => ?_)
  refine k6 _ _ ?_
  refine wp_ret ?_
  refine bodyPost_ret (v := .bool true) ?_ rfl ?_
  · exact res_t rfl (by kernel_rfl) _
  · exact ⟨rfl, hp4.bel⟩
set_option maxHeartbeats 4000000 in
theorem twel2 {G : World → Prop} (K : FpK G) (R : RefK) (x y : F12) (m : Nat) (w : World) (hg : G w) (hB : ∀ w, G w → Calls Tryd.prog 6 #[] w (Ret (.bool true) w)) (hn : x.norm = 0) (hm64 : m < 2 ^ 64) : Calls Tryd.prog 3 #[V12 x, V12 y, .int .u64 ((m : Nat) : Int)] w (Ret (.bool true) w) := by
  have hp0 := Heap.start w
  go_enter Tryd.func3, Tryd.ntmps3
  refine wp_seq_k (fun K1 k1 => ?_)
  refine gs [.alloc (C12 x), .alloc (C12 y), .det (.bool false)] [0, 1, 2] [0, 0, 0] (fun L => [V12 x, V12 y, .int .u64 ((m : Nat) : Int), pt (L.b 0) 0, pt (L.b 1) 0, undef, .bool false] ++ U 86) (fun L => [(L.b 0, C12 x), (L.b 1, C12 y)]) hp0 ⟨
    oB, oB, oA,
    trivial⟩ (fun L0 w1 hp1 => ?_)
  refine k1 _ _ ?_
  refine wp_seq_k (fun K2 k2 => ?_)
  refine wp_seq_k (fun K3 k3 => ?_)
  refine gs [.det (.bool true), .det (.bool false)] [0, 1] [0, 1] (fun L => [V12 x, V12 y, .int .u64 ((m : Nat) : Int), pt (L0.b 0) 0, pt (L0.b 1) 0, undef, .bool false, undef, undef, undef, undef, .bool true, .bool false] ++ U 80) (fun L => [((L0.b 0), C12 x), ((L0.b 1), C12 y)]) hp1 ⟨
    oC K.stay hg hB, oN,
    trivial⟩ (fun L1 w2 hp2 => ?_)
  refine k3 _ _ ?_
  refine wp_cond_false (by kernel_rfl) ?_
  refine skips ?_
  refine k2 _ _ ?_
  refine wp_seq_k (fun K4 k4 => ?_)
  refine wp_seq_k (fun K5 k5 => ?_)
  refine gs [.det (V12 x), .det (.bool true), .det (.bool false), .det (.bool false), .det (V12 y), .det (.bool true), .det (.bool false), .det (.bool false)] [0, 1, 2, 3, 4, 5, 6, 7] [0, 1, 3, 7, 15, 31, 63, 127] (fun L => [V12 x, V12 y, .int .u64 ((m : Nat) : Int), pt (L0.b 0) 0, pt (L0.b 1) 0, undef, .bool false, undef, undef, undef, undef, .bool true, .bool false, V12 x, .bool true, .bool false, .bool false, V12 y, .bool true, .bool false, .bool false] ++ U 72) (fun L => [((L0.b 0), C12 x), ((L0.b 1), C12 y)]) hp2 ⟨
    oL 0 0 r12, oR (ref5May12P R x), oN, oM, oL 1 0 r12, oR (ref5May12P R y), oN, oP,
    trivial⟩ (fun L2 w3 hp3 => ?_)
  refine k5 _ _ ?_
  refine wp_cond_false (by kernel_rfl) ?_
  refine skips ?_
  refine k4 _ _ ?_
  refine wp_seq_k (fun K6 k6 => ?_)
  refine gs [.det (V12 x), .det (.tuple #[V12 0, .int .i64 7]), .det (.tuple #[V12 0, .int .i64 7]), .det (V12 0), .det (.int .i64 7), .alloc (C12 0), .store (.new 5) 0 (C12 0) (C12 0), .det (.int .i64 7)] [0, 1, 2, 3, 4, 5, 6, 7] [0, 1, 3, 7, 7, 0, 47, 127] (fun L => [V12 x, V12 y, .int .u64 ((m : Nat) : Int), pt (L0.b 0) 0, pt (L0.b 1) 0, undef, .bool false, pt (L.b 5) 0, .int .i64 7, undef, undef, .bool true, .bool false, V12 x, .bool true, .bool false, .bool false, V12 y, .bool true, .bool false, .bool false, undef, undef, undef, undef, undef, .tuple #[V12 0, .int .i64 7], V12 x, .tuple #[V12 0, .int .i64 7], V12 0, .int .i64 7] ++ U 62) (fun L => [((L0.b 0), C12 x), ((L0.b 1), C12 y), (L.b 5, C12 0)]) hp3 ⟨
    oL 0 0 r12, oH (v := .tuple #[V12 0, .int .i64 7]) (vs := #[V12 x]) (fun w hb _ => fp12Inv0 K x w (K.stay hg hb) hn), oM, oX, oX, oZ r12, oT r12, oA,
    trivial⟩ (fun L3 w4 hp4 => ?_)
  refine k6 _ _ ?_
  refine wp_seq_k (fun K7 k7 => ?_)
  refine gs [.det (V12 x), .det (.tuple #[V12 0, .int .i64 7]), .det (.tuple #[V12 0, .int .i64 7]), .det (V12 0), .det (.int .i64 7), .alloc (C12 0), .store (.new 5) 0 (C12 0) (C12 0), .det (.int .i64 7)] [0, 1, 2, 3, 4, 5, 6, 7] [0, 1, 3, 7, 7, 0, 47, 127] (fun L => [V12 x, V12 y, .int .u64 ((m : Nat) : Int), pt (L0.b 0) 0, pt (L0.b 1) 0, undef, .bool false, pt (L3.b 5) 0, .int .i64 7, pt (L.b 5) 0, .int .i64 7, .bool true, .bool false, V12 x, .bool true, .bool false, .bool false, V12 y, .bool true, .bool false, .bool false, undef, undef, undef, undef, undef, .tuple #[V12 0, .int .i64 7], V12 x, .tuple #[V12 0, .int .i64 7], V12 0, .int .i64 7, .tuple #[V12 0, .int .i64 7], V12 x, .tuple #[V12 0, .int .i64 7], V12 0, .int .i64 7] ++ U 57) (fun L => [((L0.b 0), C12 x), ((L0.b 1), C12 y), ((L3.b 5), C12 0), (L.b 5, C12 0)]) hp4 ⟨
    oL 0 0 r12, oH (v := .tuple #[V12 0, .int .i64 7]) (vs := #[V12 x]) (fun w _ _ => ref5Inv120 R x w hn), oM, oX, oX, oZ r12, oT r12, oA,
    trivial⟩ (fun L4 w5 hp5 => ?_)
  refine k7 _ _ ?_
  refine wp_seq_k (fun K8 k8 => ?_)
  refine dr [.det (V12 x), .det (V12 y), .det (V12 (x + y)), .det (V12 x), .det (V12 y), .det (V12 (x + y)), .det (.bool true), .det (.bool true), .det (V12 x), .det (V12 y), .det (V12 (x - y)), .det (V12 x), .det (V12 y), .det (V12 (x - y)), .det (.bool true), .det (.bool true), .det (.bool true), .det (V12 x), .det (V12 y), .det (V12 (x * y)), .det (V12 x), .det (V12 y), .det (V12 (x * y)), .det (.bool true), .det (.bool true), .det (.bool true), .det (V12 x), .det (V12 x.conj), .det (V12 x), .det (V12 x.conj), .det (.bool true), .det (.bool true), .det (.bool true), .det (V12 x), .det (.bool true), .det (.bool true), .det (.bool true), .det (V12 0), .det (V12 0), .det (.bool true), .det (.bool true), .det (.bool true), .det (.int .i64 7), .det (.int .i64 7), .det (.bool true), .det (.bool true), .det (.bool true), .det (V12 x), .det (.int .u64 ((m : Nat) : Int)), .any (isOne ((m : Nat) : Int)), .det (V12 (npw x m)), .det (V12 x), .det (.int .u64 ((m : Nat) : Int)), .any (isOne ((m : Nat) : Int)), .det (V12 (npw x m)), .det (.bool true), .det (.bool true), .det (.bool true)] [0, 1, 2, 3, 4, 5, 6, 7, 8, 9, 10, 11, 12, 13, 14, 15, 16, 17, 18, 19, 20, 21, 22, 23, 24, 25, 26, 27, 28, 29, 30, 31, 32, 33, 34, 35, 36, 37, 38, 39, 40, 41, 42, 43, 44, 45, 46, 47, 48, 49, 50, 51, 52, 53, 54, 55, 56, 57] [0, 0, 3, 0, 0, 31, 63, 127, 255, 255, 1023, 255, 255, 8191, 16383, 32767, 65535, 131071, 131071, 524287, 131071, 131071, 4194303, 8388607, 16777215, 33554431, 67108863, 134217727, 67108863, 536870911, 1073741823, 2147483647, 4294967295, 8589934591, 17179869183, 34359738367, 68719476735, 137438953471, 137438953471, 549755813887, 1099511627775, 2199023255551, 4398046511103, 4398046511103, 17592186044415, 35184372088831, 70368744177663, 140737488355327, 140737488355327, 422212465065983, 1125899906842623, 140737488355327, 140737488355327, 4644337115725823, 18014398509481983, 36028797018963967, 72057594037927935, 144115188075855871] (fun L => [V12 x, V12 y, .int .u64 ((m : Nat) : Int), pt (L0.b 0) 0, pt (L0.b 1) 0, undef, .bool true, pt (L3.b 5) 0, .int .i64 7, pt (L4.b 5) 0, .int .i64 7, .bool true, .bool false, V12 x, .bool true, .bool false, .bool false, V12 y, .bool true, .bool false, .bool false, undef, undef, undef, undef, undef, .tuple #[V12 0, .int .i64 7], V12 x, .tuple #[V12 0, .int .i64 7], V12 0, .int .i64 7, .tuple #[V12 0, .int .i64 7], V12 x, .tuple #[V12 0, .int .i64 7], V12 0, .int .i64 7, V12 x, V12 y, V12 (x + y), V12 x, V12 y, V12 (x + y), .bool true, .bool true, V12 x, V12 y, V12 (x - y), V12 x, V12 y, V12 (x - y), .bool true, .bool true, .bool true, V12 x, V12 y, V12 (x * y), V12 x, V12 y, V12 (x * y), .bool true, .bool true, .bool true, V12 x, V12 x.conj, V12 x, V12 x.conj, .bool true, .bool true, .bool true, V12 x, .bool true, .bool true, .bool true, V12 0, V12 0, .bool true, .bool true, .bool true, .int .i64 7, .int .i64 7, .bool true, .bool true, .bool true, V12 x, .int .u64 ((m : Nat) : Int), L.v 49, V12 (npw x m), V12 x, .int .u64 ((m : Nat) : Int), L.v 53, V12 (npw x m), .bool true, .bool true]) (fun L => [((L0.b 0), C12 x), ((L0.b 1), C12 y), ((L3.b 5), C12 0), ((L4.b 5), C12 0)]) hp5 ⟨
    oL 0 0 r12, oL 1 0 r12, oC K.stay hg (fp12Add K x y), oL 0 0 r12, oL 1 0 r12, oR (ref5Add12 R x y), oE (a := (x + y)) (b := (x + y)) q12 (yes rfl), oM, oL 0 0 r12,
    oL 1 0 r12, oC K.stay hg (fp12Sub K x y), oL 0 0 r12, oL 1 0 r12, oR (ref5Sub12 R x y), oE (a := (x - y)) (b := (x - y)) q12 (yes rfl), oP, oM, oL 0 0 r12, oL 1 0 r12,
    oC K.stay hg (fp12Mul K x y), oL 0 0 r12, oL 1 0 r12, oR (ref5Mul12 R x y), oE (a := (x * y)) (b := (x * y)) q12 (yes rfl), oP, oM, oL 0 0 r12, oC K.stay hg (fp12Conj K x),
    oL 0 0 r12, oR (ref5Conj12 R x), oE (a := x.conj) (b := x.conj) q12 (yes rfl), oP, oM, oL 0 0 r12, oC K.stay hg (fp12MayP K x), oP, oM, oL 2 0 r12, oL 3 0 r12,
    oE (a := 0) (b := 0) q12 (yes rfl), oP, oM, oM, oM, oJ .i64 .i64 7 7 (h := fun w => (eqlI _ _ _ _ w).trans rfl), oP, oM, oL 0 0 r12, oM, oS1 Tryd.underlying39 (by kernel_rfl) (by kernel_rfl),
    oCS (fun L => #[V12 x, L.v 49]) (fun L w hs => powOne K x m _ w (K.stay hg hs.bel) hm64 (hs.any 49 _ rfl rfl)), oL 0 0 r12, oM, oS1 Tryd.underlying39 (by kernel_rfl) (by kernel_rfl),
    oCS (fun L => #[V12 x, L.v 53]) (fun L w hs => refPowOne R x m _ w hm64 (hs.any 53 _ rfl rfl)), oE (a := (npw x m)) (b := (npw x m)) q12 (yes rfl), oP, oA,
    trivial⟩ (fun L5 w6 hp6 => ?_)
  refine k8 _ _ ?_
  refine wp_ret ?_
  refine bodyPost_ret (v := .bool true) ?_ rfl ?_
  · exact res_t rfl (by kernel_rfl) _
  · exact ⟨rfl, hp6.bel⟩
set_option maxHeartbeats 4000000 in
theorem twel3 {G : World → Prop} (K : FpK G) (R : RefK) (x y : F12) (m : Nat) (w : World) (hg : G w) (hB : ∀ w, G w → Calls Tryd.prog 6 #[] w (Ret (.bool true) w)) (hn : x.norm ≠ 0) (hm64 : m < 2 ^ 64) : Calls Tryd.prog 3 #[V12 x, V12 y, .int .u64 ((m : Nat) : Int)] w (Ret (.bool true) w) := by
  have hp0 := Heap.start w
  go_enter Tryd.func3, Tryd.ntmps3
  refine wp_seq_k (fun K1 k1 => ?_)
  refine gs [.alloc (C12 x), .alloc (C12 y), .det (.bool false)] [0, 1, 2] [0, 0, 0] (fun L => [V12 x, V12 y, .int .u64 ((m : Nat) : Int), pt (L.b 0) 0, pt (L.b 1) 0, undef, .bool false] ++ U 86) (fun L => [(L.b 0, C12 x), (L.b 1, C12 y)]) hp0 ⟨
    oB, oB, oA,
    trivial⟩ (fun L0 w1 hp1 => ?_)
  refine k1 _ _ ?_
  refine wp_seq_k (fun K2 k2 => ?_)
  refine wp_seq_k (fun K3 k3 => ?_)
  refine gs [.det (.bool true), .det (.bool false)] [0, 1] [0, 1] (fun L => [V12 x, V12 y, .int .u64 ((m : Nat) : Int), pt (L0.b 0) 0, pt (L0.b 1) 0, undef, .bool false, undef, undef, undef, undef, .bool true, .bool false] ++ U 80) (fun L => [((L0.b 0), C12 x), ((L0.b 1), C12 y)]) hp1 ⟨
    oC K.stay hg hB, oN,
    trivial⟩ (fun L1 w2 hp2 => ?_)
  refine k3 _ _ ?_
  refine wp_cond_false (by kernel_rfl) ?_
  refine skips ?_
  refine k2 _ _ ?_
  refine wp_seq_k (fun K4 k4 => ?_)
  refine wp_seq_k (fun K5 k5 => ?_)
  refine gs [.det (V12 x), .det (.bool true), .det (.bool false), .det (.bool false), .det (V12 y), .det (.bool true), .det (.bool false), .det (.bool false)] [0, 1, 2, 3, 4, 5, 6, 7] [0, 1, 3, 7, 15, 31, 63, 127] (fun L => [V12 x, V12 y, .int .u64 ((m : Nat) : Int), pt (L0.b 0) 0, pt (L0.b 1) 0, undef, .bool false, undef, undef, undef, undef, .bool true, .bool false, V12 x, .bool true, .bool false, .bool false, V12 y, .bool true, .bool false, .bool false] ++ U 72) (fun L => [((L0.b 0), C12 x), ((L0.b 1), C12 y)]) hp2 ⟨
    oL 0 0 r12, oR (ref5May12P R x), oN, oM, oL 1 0 r12, oR (ref5May12P R y), oN, oP,
    trivial⟩ (fun L2 w3 hp3 => ?_)
  refine k5 _ _ ?_
  refine wp_cond_false (by kernel_rfl) ?_
  refine skips ?_
  refine k4 _ _ ?_
  refine wp_seq_k (fun K6 k6 => ?_)
  refine gs [.det (V12 x), .det (.tuple #[V12 x.inv, .int .i64 0]), .det (.tuple #[V12 x.inv, .int .i64 0]), .det (V12 x.inv), .det (.int .i64 0), .alloc (C12 0), .store (.new 5) 0 (C12 x.inv) (C12 x.inv), .det (.int .i64 0)] [0, 1, 2, 3, 4, 5, 6, 7] [0, 1, 3, 7, 7, 0, 47, 127] (fun L => [V12 x, V12 y, .int .u64 ((m : Nat) : Int), pt (L0.b 0) 0, pt (L0.b 1) 0, undef, .bool false, pt (L.b 5) 0, .int .i64 0, undef, undef, .bool true, .bool false, V12 x, .bool true, .bool false, .bool false, V12 y, .bool true, .bool false, .bool false, undef, undef, undef, undef, undef, .tuple #[V12 x.inv, .int .i64 0], V12 x, .tuple #[V12 x.inv, .int .i64 0], V12 x.inv, .int .i64 0] ++ U 62) (fun L => [((L0.b 0), C12 x), ((L0.b 1), C12 y), (L.b 5, C12 x.inv)]) hp3 ⟨
    oL 0 0 r12, oH (v := .tuple #[V12 x.inv, .int .i64 0]) (vs := #[V12 x]) (fun w hb _ => fp12Inv K x w (K.stay hg hb) hn), oM, oX, oX, oZ r12, oT r12, oA,
    trivial⟩ (fun L3 w4 hp4 => ?_)
  refine k6 _ _ ?_
  refine wp_seq_k (fun K7 k7 => ?_)
  refine gs [.det (V12 x), .det (.tuple #[V12 x.inv, .int .i64 0]), .det (.tuple #[V12 x.inv, .int .i64 0]), .det (V12 x.inv), .det (.int .i64 0), .alloc (C12 0), .store (.new 5) 0 (C12 x.inv) (C12 x.inv), .det (.int .i64 0)] [0, 1, 2, 3, 4, 5, 6, 7] [0, 1, 3, 7, 7, 0, 47, 127] (fun L => [V12 x, V12 y, .int .u64 ((m : Nat) : Int), pt (L0.b 0) 0, pt (L0.b 1) 0, undef, .bool false, pt (L3.b 5) 0, .int .i64 0, pt (L.b 5) 0, .int .i64 0, .bool true, .bool false, V12 x, .bool true, .bool false, .bool false, V12 y, .bool true, .bool false, .bool false, undef, undef, undef, undef, undef, .tuple #[V12 x.inv, .int .i64 0], V12 x, .tuple #[V12 x.inv, .int .i64 0], V12 x.inv, .int .i64 0, .tuple #[V12 x.inv, .int .i64 0], V12 x, .tuple #[V12 x.inv, .int .i64 0], V12 x.inv, .int .i64 0] ++ U 57) (fun L => [((L0.b 0), C12 x), ((L0.b 1), C12 y), ((L3.b 5), C12 x.inv), (L.b 5, C12 x.inv)]) hp4 ⟨
    oL 0 0 r12, oH (v := .tuple #[V12 x.inv, .int .i64 0]) (vs := #[V12 x]) (fun w _ _ => ref5Inv12 R x w hn), oM, oX, oX, oZ r12, oT r12, oA,
    trivial⟩ (fun L4 w5 hp5 => ?_)
  refine k7 _ _ ?_
  refine wp_seq_k (fun K8 k8 => ?_)
  refine dr [.det (V12 x), .det (V12 y), .det (V12 (x + y)), .det (V12 x), .det (V12 y), .det (V12 (x + y)), .det (.bool true), .det (.bool true), .det (V12 x), .det (V12 y), .det (V12 (x - y)), .det (V12 x), .det (V12 y), .det (V12 (x - y)), .det (.bool true), .det (.bool true), .det (.bool true), .det (V12 x), .det (V12 y), .det (V12 (x * y)), .det (V12 x), .det (V12 y), .det (V12 (x * y)), .det (.bool true), .det (.bool true), .det (.bool true), .det (V12 x), .det (V12 x.conj), .det (V12 x), .det (V12 x.conj), .det (.bool true), .det (.bool true), .det (.bool true), .det (V12 x), .det (.bool true), .det (.bool true), .det (.bool true), .det (V12 x.inv), .det (V12 x.inv), .det (.bool true), .det (.bool true), .det (.bool true), .det (.int .i64 0), .det (.int .i64 0), .det (.bool true), .det (.bool true), .det (.bool true), .det (V12 x), .det (.int .u64 ((m : Nat) : Int)), .any (isOne ((m : Nat) : Int)), .det (V12 (npw x m)), .det (V12 x), .det (.int .u64 ((m : Nat) : Int)), .any (isOne ((m : Nat) : Int)), .det (V12 (npw x m)), .det (.bool true), .det (.bool true), .det (.bool true)] [0, 1, 2, 3, 4, 5, 6, 7, 8, 9, 10, 11, 12, 13, 14, 15, 16, 17, 18, 19, 20, 21, 22, 23, 24, 25, 26, 27, 28, 29, 30, 31, 32, 33, 34, 35, 36, 37, 38, 39, 40, 41, 42, 43, 44, 45, 46, 47, 48, 49, 50, 51, 52, 53, 54, 55, 56, 57] [0, 0, 3, 0, 0, 31, 63, 127, 255, 255, 1023, 255, 255, 8191, 16383, 32767, 65535, 131071, 131071, 524287, 131071, 131071, 4194303, 8388607, 16777215, 33554431, 67108863, 134217727, 67108863, 536870911, 1073741823, 2147483647, 4294967295, 8589934591, 17179869183, 34359738367, 68719476735, 137438953471, 137438953471, 549755813887, 1099511627775, 2199023255551, 4398046511103, 4398046511103, 17592186044415, 35184372088831, 70368744177663, 140737488355327, 140737488355327, 422212465065983, 1125899906842623, 140737488355327, 140737488355327, 4644337115725823, 18014398509481983, 36028797018963967, 72057594037927935, 144115188075855871] (fun L => [V12 x, V12 y, .int .u64 ((m : Nat) : Int), pt (L0.b 0) 0, pt (L0.b 1) 0, undef, .bool true, pt (L3.b 5) 0, .int .i64 0, pt (L4.b 5) 0, .int .i64 0, .bool true, .bool false, V12 x, .bool true, .bool false, .bool false, V12 y, .bool true, .bool false, .bool false, undef, undef, undef, undef, undef, .tuple #[V12 x.inv, .int .i64 0], V12 x, .tuple #[V12 x.inv, .int .i64 0], V12 x.inv, .int .i64 0, .tuple #[V12 x.inv, .int .i64 0], V12 x, .tuple #[V12 x.inv, .int .i64 0], V12 x.inv, .int .i64 0, V12 x, V12 y, V12 (x + y), V12 x, V12 y, V12 (x + y), .bool true, .bool true, V12 x, V12 y, V12 (x - y), V12 x, V12 y, V12 (x - y), .bool true, .bool true, .bool true, V12 x, V12 y, V12 (x * y), V12 x, V12 y, V12 (x * y), .bool true, .bool true, .bool true, V12 x, V12 x.conj, V12 x, V12 x.conj, .bool true, .bool true, .bool true, V12 x, .bool true, .bool true, .bool true, V12 x.inv, V12 x.inv, .bool true, .bool true, .bool true, .int .i64 0, .int .i64 0, .bool true, .bool true, .bool true, V12 x, .int .u64 ((m : Nat) : Int), L.v 49, V12 (npw x m), V12 x, .int .u64 ((m : Nat) : Int), L.v 53, V12 (npw x m), .bool true, .bool true]) (fun L => [((L0.b 0), C12 x), ((L0.b 1), C12 y), ((L3.b 5), C12 x.inv), ((L4.b 5), C12 x.inv)]) hp5 ⟨
    oL 0 0 r12, oL 1 0 r12, oC K.stay hg (fp12Add K x y), oL 0 0 r12, oL 1 0 r12, oR (ref5Add12 R x y), oE (a := (x + y)) (b := (x + y)) q12 (yes rfl), oM, oL 0 0 r12,
    oL 1 0 r12, oC K.stay hg (fp12Sub K x y), oL 0 0 r12, oL 1 0 r12, oR (ref5Sub12 R x y), oE (a := (x - y)) (b := (x - y)) q12 (yes rfl), oP, oM, oL 0 0 r12, oL 1 0 r12,
    oC K.stay hg (fp12Mul K x y), oL 0 0 r12, oL 1 0 r12, oR (ref5Mul12 R x y), oE (a := (x * y)) (b := (x * y)) q12 (yes rfl), oP, oM, oL 0 0 r12, oC K.stay hg (fp12Conj K x),
    oL 0 0 r12, oR (ref5Conj12 R x), oE (a := x.conj) (b := x.conj) q12 (yes rfl), oP, oM, oL 0 0 r12, oC K.stay hg (fp12MayP K x), oP, oM, oL 2 0 r12, oL 3 0 r12,
    oE (a := x.inv) (b := x.inv) q12 (yes rfl), oP, oM, oM, oM, oJ .i64 .i64 0 0 (h := fun w => (eqlI _ _ _ _ w).trans rfl), oP, oM, oL 0 0 r12, oM, oS1 Tryd.underlying39 (by kernel_rfl) (by kernel_rfl),
    oCS (fun L => #[V12 x, L.v 49]) (fun L w hs => powOne K x m _ w (K.stay hg hs.bel) hm64 (hs.any 49 _ rfl rfl)), oL 0 0 r12, oM, oS1 Tryd.underlying39 (by kernel_rfl) (by kernel_rfl),
    oCS (fun L => #[V12 x, L.v 53]) (fun L w hs => refPowOne R x m _ w hm64 (hs.any 53 _ rfl rfl)), oE (a := (npw x m)) (b := (npw x m)) q12 (yes rfl), oP, oA,
    trivial⟩ (fun L5 w6 hp6 => ?_)
  refine k8 _ _ ?_
  refine wp_ret ?_
  refine bodyPost_ret (v := .bool true) ?_ rfl ?_
  · exact res_t rfl (by kernel_rfl) _
  · exact ⟨rfl, hp6.bel⟩
/-- What Fp12All answers. -/
theorem fp12All_walk {G : World → Prop} (K : FpK G) (R : RefK) (f0a g0a f0b g0b f0c g0c f0d g0d f0e g0e f0f g0f f1a g1a f1b g1b f1c g1c f1d g1d f1e g1e f1f g1f : Nat → Int) (k : Int) (rf0a : Rg f0a 6) (rg0a : Rg g0a 6) (rf0b : Rg f0b 6) (rg0b : Rg g0b 6) (rf0c : Rg f0c 6) (rg0c : Rg g0c 6) (rf0d : Rg f0d 6) (rg0d : Rg g0d 6) (rf0e : Rg f0e 6) (rg0e : Rg g0e 6) (rf0f : Rg f0f 6) (rg0f : Rg g0f 6) (rf1a : Rg f1a 6) (rg1a : Rg g1a 6) (rf1b : Rg f1b 6) (rg1b : Rg g1b 6) (rf1c : Rg f1c 6) (rg1c : Rg g1c 6) (rf1d : Rg f1d 6) (rg1d : Rg g1d 6) (rf1e : Rg f1e 6) (rg1e : Rg g1e 6) (rf1f : Rg f1f 6) (rg1f : Rg g1f 6) (hk : 0 ≤ k ∧ k < 2 ^ 64) (w : World) (hg : G w) :
    Calls Tryd.prog 3 #[QV12 f0a g0a f0b g0b f0c g0c f0d g0d f0e g0e f0f g0f, QV12 f1a g1a f1b g1b f1c g1c f1d g1d f1e g1e f1f g1f, .int .u64 k] w (Ret (.bool true) w) := by
  have hB := fun w hg => begun7 K w hg
  obtain ⟨m, rfl⟩ : ∃ m : Nat, k = (m : Int) := ⟨k.toNat, (Int.toNat_of_nonneg hk.1).symm⟩
  have hm : m < 2 ^ 64 := by omega
  rcases six_or K R f0a g0a f0b g0b f0c g0c f0d g0d f0e g0e f0f g0f rf0a rg0a rf0b rg0b rf0c rg0c rf0d rg0d rf0e rg0e rf0f rg0f with ⟨⟨x, hx⟩, h1, h2⟩ | ⟨h1, h2⟩
  · rcases six_or K R f1a g1a f1b g1b f1c g1c f1d g1d f1e g1e f1f g1f rf1a rg1a rf1b rg1b rf1c rg1c rf1d rg1d rf1e rg1e rf1f rg1f with ⟨⟨y, hy⟩, h3, h4⟩ | ⟨h3, h4⟩
    · rw [hx, hy]
      by_cases hn : x.norm = 0
      · exact twel2 K R x y m w hg hB hn hm
      · exact twel3 K R x y m w hg hB hn hm
    · exact twel1 K R f0a g0a f0b g0b f0c g0c f0d g0d f0e g0e f0f g0f f1a g1a f1b g1b f1c g1c f1d g1d f1e g1e f1f g1f m w hg hB h1 h2 h3
  · exact twel0 K R f0a g0a f0b g0b f0c g0c f0d g0d f0e g0e f0f g0f f1a g1a f1b g1b f1c g1c f1d g1d f1e g1e f1f g1f m w hg hB h1 h2
end Go.Proofs.YtbncpnkjeadolaaDoor.fpn

/- Fp12Field walked. -/
namespace Go.Proofs.YtbncpnkjeadolaaDoor.fpn
open Go.RowKit Pl
set_option linter.unusedVariables false
set_option linter.unusedSimpArgs false
set_option maxRecDepth 4000

set_option maxHeartbeats 4000000 in
theorem twef0 {G : World → Prop} (K : FpK G) (R : RefK) (f0a g0a f0b g0b f0c g0c f0d g0d f0e g0e f0f g0f f1a g1a f1b g1b f1c g1c f1d g1d f1e g1e f1f g1f f2a g2a f2b g2b f2c g2c f2d g2d f2e g2e f2f g2f : Nat → Int) (m l : Nat) (w : World) (hg : G w) (hB : ∀ w, G w → Calls Tryd.prog 6 #[] w (Ret (.bool true) w)) (hm : ∀ w, G w → Calls Tryd.prog 7 #[QV12 f0a g0a f0b g0b f0c g0c f0d g0d f0e g0e f0f g0f] w (Ret (.bool false) w)) : Calls Tryd.prog 4 #[QV12 f0a g0a f0b g0b f0c g0c f0d g0d f0e g0e f0f g0f, QV12 f1a g1a f1b g1b f1c g1c f1d g1d f1e g1e f1f g1f, QV12 f2a g2a f2b g2b f2c g2c f2d g2d f2e g2e f2f g2f, .int .u64 ((m : Nat) : Int), .int .u64 ((l : Nat) : Int)] w (Ret (.bool true) w) := by
  have hp0 := Heap.start w
  go_enter Tryd.func4, Tryd.ntmps4
  refine wp_seq_k (fun K1 k1 => ?_)
  refine gs [.alloc (QC12 f0a g0a f0b g0b f0c g0c f0d g0d f0e g0e f0f g0f), .alloc (QC12 f1a g1a f1b g1b f1c g1c f1d g1d f1e g1e f1f g1f), .alloc (QC12 f2a g2a f2b g2b f2c g2c f2d g2d f2e g2e f2f g2f), .det (.bool false)] [0, 1, 2, 3] [0, 0, 0, 0] (fun L => [QV12 f0a g0a f0b g0b f0c g0c f0d g0d f0e g0e f0f g0f, QV12 f1a g1a f1b g1b f1c g1c f1d g1d f1e g1e f1f g1f, QV12 f2a g2a f2b g2b f2c g2c f2d g2d f2e g2e f2f g2f, .int .u64 ((m : Nat) : Int), .int .u64 ((l : Nat) : Int), pt (L.b 0) 0, pt (L.b 1) 0, pt (L.b 2) 0, undef, undef, .bool false] ++ U 124) (fun L => [(L.b 0, QC12 f0a g0a f0b g0b f0c g0c f0d g0d f0e g0e f0f g0f), (L.b 1, QC12 f1a g1a f1b g1b f1c g1c f1d g1d f1e g1e f1f g1f), (L.b 2, QC12 f2a g2a f2b g2b f2c g2c f2d g2d f2e g2e f2f g2f)]) hp0 ⟨
    oB, oB, oB, oA,
    trivial⟩ (fun L0 w1 hp1 => ?_)
  refine k1 _ _ ?_
  refine wp_seq_k (fun K2 k2 => ?_)
  refine wp_seq_k (fun K3 k3 => ?_)
  refine gs [.det (.bool true), .det (.bool false)] [0, 1] [0, 1] (fun L => [QV12 f0a g0a f0b g0b f0c g0c f0d g0d f0e g0e f0f g0f, QV12 f1a g1a f1b g1b f1c g1c f1d g1d f1e g1e f1f g1f, QV12 f2a g2a f2b g2b f2c g2c f2d g2d f2e g2e f2f g2f, .int .u64 ((m : Nat) : Int), .int .u64 ((l : Nat) : Int), pt (L0.b 0) 0, pt (L0.b 1) 0, pt (L0.b 2) 0, undef, undef, .bool false, undef, undef, undef, undef, undef, .bool true, .bool false] ++ U 117) (fun L => [((L0.b 0), QC12 f0a g0a f0b g0b f0c g0c f0d g0d f0e g0e f0f g0f), ((L0.b 1), QC12 f1a g1a f1b g1b f1c g1c f1d g1d f1e g1e f1f g1f), ((L0.b 2), QC12 f2a g2a f2b g2b f2c g2c f2d g2d f2e g2e f2f g2f)]) hp1 ⟨
    oC K.stay hg hB, oN,
    trivial⟩ (fun L1 w2 hp2 => ?_)
  refine k3 _ _ ?_
  refine wp_cond_false (by kernel_rfl) ?_
  refine skips ?_
  refine k2 _ _ ?_
  refine wp_seq_k (fun K4 k4 => ?_)
  refine wp_seq_k (fun K5 k5 => ?_)
  refine gs [.det (QV12 f0a g0a f0b g0b f0c g0c f0d g0d f0e g0e f0f g0f), .det (.bool false), .det (.bool true), .det (.bool true), .det undef, .det undef, .det undef, .det (.bool true), .det (.bool true), .det undef, .det undef, .det undef, .det (.bool true)] [0, 1, 2, 3, 4, 5, 6, 7, 8, 9, 10, 11, 12] [0, 1, 3, 7, 15, 31, 63, 127, 255, 511, 1023, 2047, 4095] (fun L => [QV12 f0a g0a f0b g0b f0c g0c f0d g0d f0e g0e f0f g0f, QV12 f1a g1a f1b g1b f1c g1c f1d g1d f1e g1e f1f g1f, QV12 f2a g2a f2b g2b f2c g2c f2d g2d f2e g2e f2f g2f, .int .u64 ((m : Nat) : Int), .int .u64 ((l : Nat) : Int), pt (L0.b 0) 0, pt (L0.b 1) 0, pt (L0.b 2) 0, undef, undef, .bool false, undef, undef, undef, undef, undef, .bool true, .bool false, QV12 f0a g0a f0b g0b f0c g0c f0d g0d f0e g0e f0f g0f, .bool false, .bool true, .bool true, undef, undef, undef, .bool true, .bool true, undef, undef, undef, .bool true] ++ U 104) (fun L => [((L0.b 0), QC12 f0a g0a f0b g0b f0c g0c f0d g0d f0e g0e f0f g0f), ((L0.b 1), QC12 f1a g1a f1b g1b f1c g1c f1d g1d f1e g1e f1f g1f), ((L0.b 2), QC12 f2a g2a f2b g2b f2c g2c f2d g2d f2e g2e f2f g2f)]) hp2 ⟨
    oL 0 0 r12, oC K.stay hg hm, oN, oM, oS, oS, oS, oP, oM, oS, oS, oS, oP,
    trivial⟩ (fun L2 w3 hp3 => ?_)
  refine k5 _ _ ?_
  refine wp_cond_true (by kernel_rfl) ?_
  refine wp_seq_k (fun K6 k6 => ?_)
  refine gs [.det (.bool true)] [0] [0] (fun L => [QV12 f0a g0a f0b g0b f0c g0c f0d g0d f0e g0e f0f g0f, QV12 f1a g1a f1b g1b f1c g1c f1d g1d f1e g1e f1f g1f, QV12 f2a g2a f2b g2b f2c g2c f2d g2d f2e g2e f2f g2f, .int .u64 ((m : Nat) : Int), .int .u64 ((l : Nat) : Int), pt (L0.b 0) 0, pt (L0.b 1) 0, pt (L0.b 2) 0, undef, undef, .bool true, undef, undef, undef, undef, undef, .bool true, .bool false, QV12 f0a g0a f0b g0b f0c g0c f0d g0d f0e g0e f0f g0f, .bool false, .bool true, .bool true, undef, undef, undef, .bool true, .bool true, undef, undef, undef, .bool true] ++ U 104) (fun L => [((L0.b 0), QC12 f0a g0a f0b g0b f0c g0c f0d g0d f0e g0e f0f g0f), ((L0.b 1), QC12 f1a g1a f1b g1b f1c g1c f1d g1d f1e g1e f1f g1f), ((L0.b 2), QC12 f2a g2a f2b g2b f2c g2c f2d g2d f2e g2e f2f g2f)]) hp3 ⟨
    oA,
    trivial⟩ (fun L3 w4 hp4 => ?_)
  refine k6 _ _ ?_
  refine wp_ret ?_
  refine bodyPost_ret (v := .bool true) ?_ rfl ?_
  · exact res_t rfl (by kernel_rfl) _
  · exact ⟨rfl, hp4.bel⟩
set_option maxHeartbeats 4000000 in
theorem twef1 {G : World → Prop} (K : FpK G) (R : RefK) (f0a g0a f0b g0b f0c g0c f0d g0d f0e g0e f0f g0f f1a g1a f1b g1b f1c g1c f1d g1d f1e g1e f1f g1f f2a g2a f2b g2b f2c g2c f2d g2d f2e g2e f2f g2f : Nat → Int) (m l : Nat) (w : World) (hg : G w) (hB : ∀ w, G w → Calls Tryd.prog 6 #[] w (Ret (.bool true) w)) (hm : ∀ w, G w → Calls Tryd.prog 7 #[QV12 f0a g0a f0b g0b f0c g0c f0d g0d f0e g0e f0f g0f] w (Ret (.bool true) w)) (hm2 : ∀ w, G w → Calls Tryd.prog 7 #[QV12 f1a g1a f1b g1b f1c g1c f1d g1d f1e g1e f1f g1f] w (Ret (.bool false) w)) : Calls Tryd.prog 4 #[QV12 f0a g0a f0b g0b f0c g0c f0d g0d f0e g0e f0f g0f, QV12 f1a g1a f1b g1b f1c g1c f1d g1d f1e g1e f1f g1f, QV12 f2a g2a f2b g2b f2c g2c f2d g2d f2e g2e f2f g2f, .int .u64 ((m : Nat) : Int), .int .u64 ((l : Nat) : Int)] w (Ret (.bool true) w) := by
  have hp0 := Heap.start w
  go_enter Tryd.func4, Tryd.ntmps4
  refine wp_seq_k (fun K1 k1 => ?_)
  refine gs [.alloc (QC12 f0a g0a f0b g0b f0c g0c f0d g0d f0e g0e f0f g0f), .alloc (QC12 f1a g1a f1b g1b f1c g1c f1d g1d f1e g1e f1f g1f), .alloc (QC12 f2a g2a f2b g2b f2c g2c f2d g2d f2e g2e f2f g2f), .det (.bool false)] [0, 1, 2, 3] [0, 0, 0, 0] (fun L => [QV12 f0a g0a f0b g0b f0c g0c f0d g0d f0e g0e f0f g0f, QV12 f1a g1a f1b g1b f1c g1c f1d g1d f1e g1e f1f g1f, QV12 f2a g2a f2b g2b f2c g2c f2d g2d f2e g2e f2f g2f, .int .u64 ((m : Nat) : Int), .int .u64 ((l : Nat) : Int), pt (L.b 0) 0, pt (L.b 1) 0, pt (L.b 2) 0, undef, undef, .bool false] ++ U 124) (fun L => [(L.b 0, QC12 f0a g0a f0b g0b f0c g0c f0d g0d f0e g0e f0f g0f), (L.b 1, QC12 f1a g1a f1b g1b f1c g1c f1d g1d f1e g1e f1f g1f), (L.b 2, QC12 f2a g2a f2b g2b f2c g2c f2d g2d f2e g2e f2f g2f)]) hp0 ⟨
    oB, oB, oB, oA,
    trivial⟩ (fun L0 w1 hp1 => ?_)
  refine k1 _ _ ?_
  refine wp_seq_k (fun K2 k2 => ?_)
  refine wp_seq_k (fun K3 k3 => ?_)
  refine gs [.det (.bool true), .det (.bool false)] [0, 1] [0, 1] (fun L => [QV12 f0a g0a f0b g0b f0c g0c f0d g0d f0e g0e f0f g0f, QV12 f1a g1a f1b g1b f1c g1c f1d g1d f1e g1e f1f g1f, QV12 f2a g2a f2b g2b f2c g2c f2d g2d f2e g2e f2f g2f, .int .u64 ((m : Nat) : Int), .int .u64 ((l : Nat) : Int), pt (L0.b 0) 0, pt (L0.b 1) 0, pt (L0.b 2) 0, undef, undef, .bool false, undef, undef, undef, undef, undef, .bool true, .bool false] ++ U 117) (fun L => [((L0.b 0), QC12 f0a g0a f0b g0b f0c g0c f0d g0d f0e g0e f0f g0f), ((L0.b 1), QC12 f1a g1a f1b g1b f1c g1c f1d g1d f1e g1e f1f g1f), ((L0.b 2), QC12 f2a g2a f2b g2b f2c g2c f2d g2d f2e g2e f2f g2f)]) hp1 ⟨
    oC K.stay hg hB, oN,
    trivial⟩ (fun L1 w2 hp2 => ?_)
  refine k3 _ _ ?_
  refine wp_cond_false (by kernel_rfl) ?_
  refine skips ?_
  refine k2 _ _ ?_
  refine wp_seq_k (fun K4 k4 => ?_)
  refine wp_seq_k (fun K5 k5 => ?_)
  refine gs [.det (QV12 f0a g0a f0b g0b f0c g0c f0d g0d f0e g0e f0f g0f), .det (.bool true), .det (.bool false), .det (.bool false), .det (QV12 f1a g1a f1b g1b f1c g1c f1d g1d f1e g1e f1f g1f), .det (.bool false), .det (.bool true), .det (.bool true), .det (.bool true), .det undef, .det undef, .det undef, .det (.bool true)] [0, 1, 2, 3, 4, 5, 6, 7, 8, 9, 10, 11, 12] [0, 1, 3, 7, 15, 31, 63, 127, 255, 511, 1023, 2047, 4095] (fun L => [QV12 f0a g0a f0b g0b f0c g0c f0d g0d f0e g0e f0f g0f, QV12 f1a g1a f1b g1b f1c g1c f1d g1d f1e g1e f1f g1f, QV12 f2a g2a f2b g2b f2c g2c f2d g2d f2e g2e f2f g2f, .int .u64 ((m : Nat) : Int), .int .u64 ((l : Nat) : Int), pt (L0.b 0) 0, pt (L0.b 1) 0, pt (L0.b 2) 0, undef, undef, .bool false, undef, undef, undef, undef, undef, .bool true, .bool false, QV12 f0a g0a f0b g0b f0c g0c f0d g0d f0e g0e f0f g0f, .bool true, .bool false, .bool false, QV12 f1a g1a f1b g1b f1c g1c f1d g1d f1e g1e f1f g1f, .bool false, .bool true, .bool true, .bool true, undef, undef, undef, .bool true] ++ U 104) (fun L => [((L0.b 0), QC12 f0a g0a f0b g0b f0c g0c f0d g0d f0e g0e f0f g0f), ((L0.b 1), QC12 f1a g1a f1b g1b f1c g1c f1d g1d f1e g1e f1f g1f), ((L0.b 2), QC12 f2a g2a f2b g2b f2c g2c f2d g2d f2e g2e f2f g2f)]) hp2 ⟨
    oL 0 0 r12, oC K.stay hg hm, oN, oM, oL 1 0 r12, oC K.stay hg hm2, oN, oP, oM, oS, oS, oS, oP,
    trivial⟩ (fun L2 w3 hp3 => ?_)
  refine k5 _ _ ?_
  refine wp_cond_true (by kernel_rfl) ?_
  refine wp_seq_k (fun K6 k6 => ?_)
  refine gs [.det (.bool true)] [0] [0] (fun L => [QV12 f0a g0a f0b g0b f0c g0c f0d g0d f0e g0e f0f g0f, QV12 f1a g1a f1b g1b f1c g1c f1d g1d f1e g1e f1f g1f, QV12 f2a g2a f2b g2b f2c g2c f2d g2d f2e g2e f2f g2f, .int .u64 ((m : Nat) : Int), .int .u64 ((l : Nat) : Int), pt (L0.b 0) 0, pt (L0.b 1) 0, pt (L0.b 2) 0, undef, undef, .bool true, undef, undef, undef, undef, undef, .bool true, .bool false, QV12 f0a g0a f0b g0b f0c g0c f0d g0d f0e g0e f0f g0f, .bool true, .bool false, .bool false, QV12 f1a g1a f1b g1b f1c g1c f1d g1d f1e g1e f1f g1f, .bool false, .bool true, .bool true, .bool true, undef, undef, undef, .bool true] ++ U 104) (fun L => [((L0.b 0), QC12 f0a g0a f0b g0b f0c g0c f0d g0d f0e g0e f0f g0f), ((L0.b 1), QC12 f1a g1a f1b g1b f1c g1c f1d g1d f1e g1e f1f g1f), ((L0.b 2), QC12 f2a g2a f2b g2b f2c g2c f2d g2d f2e g2e f2f g2f)]) hp3 ⟨
    oA,
    trivial⟩ (fun L3 w4 hp4 => ?_)
  refine k6 _ _ ?_
  refine wp_ret ?_
  refine bodyPost_ret (v := .bool true) ?_ rfl ?_
  · exact res_t rfl (by kernel_rfl) _
  · exact ⟨rfl, hp4.bel⟩
set_option maxHeartbeats 4000000 in
theorem twef2 {G : World → Prop} (K : FpK G) (R : RefK) (f0a g0a f0b g0b f0c g0c f0d g0d f0e g0e f0f g0f f1a g1a f1b g1b f1c g1c f1d g1d f1e g1e f1f g1f f2a g2a f2b g2b f2c g2c f2d g2d f2e g2e f2f g2f : Nat → Int) (m l : Nat) (w : World) (hg : G w) (hB : ∀ w, G w → Calls Tryd.prog 6 #[] w (Ret (.bool true) w)) (hm : ∀ w, G w → Calls Tryd.prog 7 #[QV12 f0a g0a f0b g0b f0c g0c f0d g0d f0e g0e f0f g0f] w (Ret (.bool true) w)) (hm2 : ∀ w, G w → Calls Tryd.prog 7 #[QV12 f1a g1a f1b g1b f1c g1c f1d g1d f1e g1e f1f g1f] w (Ret (.bool true) w)) (hm3 : ∀ w, G w → Calls Tryd.prog 7 #[QV12 f2a g2a f2b g2b f2c g2c f2d g2d f2e g2e f2f g2f] w (Ret (.bool false) w)) : Calls Tryd.prog 4 #[QV12 f0a g0a f0b g0b f0c g0c f0d g0d f0e g0e f0f g0f, QV12 f1a g1a f1b g1b f1c g1c f1d g1d f1e g1e f1f g1f, QV12 f2a g2a f2b g2b f2c g2c f2d g2d f2e g2e f2f g2f, .int .u64 ((m : Nat) : Int), .int .u64 ((l : Nat) : Int)] w (Ret (.bool true) w) := by
  have hp0 := Heap.start w
  go_enter Tryd.func4, Tryd.ntmps4
  refine wp_seq_k (fun K1 k1 => ?_)
  refine gs [.alloc (QC12 f0a g0a f0b g0b f0c g0c f0d g0d f0e g0e f0f g0f), .alloc (QC12 f1a g1a f1b g1b f1c g1c f1d g1d f1e g1e f1f g1f), .alloc (QC12 f2a g2a f2b g2b f2c g2c f2d g2d f2e g2e f2f g2f), .det (.bool false)] [0, 1, 2, 3] [0, 0, 0, 0] (fun L => [QV12 f0a g0a f0b g0b f0c g0c f0d g0d f0e g0e f0f g0f, QV12 f1a g1a f1b g1b f1c g1c f1d g1d f1e g1e f1f g1f, QV12 f2a g2a f2b g2b f2c g2c f2d g2d f2e g2e f2f g2f, .int .u64 ((m : Nat) : Int), .int .u64 ((l : Nat) : Int), pt (L.b 0) 0, pt (L.b 1) 0, pt (L.b 2) 0, undef, undef, .bool false] ++ U 124) (fun L => [(L.b 0, QC12 f0a g0a f0b g0b f0c g0c f0d g0d f0e g0e f0f g0f), (L.b 1, QC12 f1a g1a f1b g1b f1c g1c f1d g1d f1e g1e f1f g1f), (L.b 2, QC12 f2a g2a f2b g2b f2c g2c f2d g2d f2e g2e f2f g2f)]) hp0 ⟨
    oB, oB, oB, oA,
    trivial⟩ (fun L0 w1 hp1 => ?_)
  refine k1 _ _ ?_
  refine wp_seq_k (fun K2 k2 => ?_)
  refine wp_seq_k (fun K3 k3 => ?_)
  refine gs [.det (.bool true), .det (.bool false)] [0, 1] [0, 1] (fun L => [QV12 f0a g0a f0b g0b f0c g0c f0d g0d f0e g0e f0f g0f, QV12 f1a g1a f1b g1b f1c g1c f1d g1d f1e g1e f1f g1f, QV12 f2a g2a f2b g2b f2c g2c f2d g2d f2e g2e f2f g2f, .int .u64 ((m : Nat) : Int), .int .u64 ((l : Nat) : Int), pt (L0.b 0) 0, pt (L0.b 1) 0, pt (L0.b 2) 0, undef, undef, .bool false, undef, undef, undef, undef, undef, .bool true, .bool false] ++ U 117) (fun L => [((L0.b 0), QC12 f0a g0a f0b g0b f0c g0c f0d g0d f0e g0e f0f g0f), ((L0.b 1), QC12 f1a g1a f1b g1b f1c g1c f1d g1d f1e g1e f1f g1f), ((L0.b 2), QC12 f2a g2a f2b g2b f2c g2c f2d g2d f2e g2e f2f g2f)]) hp1 ⟨
    oC K.stay hg hB, oN,
    trivial⟩ (fun L1 w2 hp2 => ?_)
  refine k3 _ _ ?_
  refine wp_cond_false (by kernel_rfl) ?_
  refine skips ?_
  refine k2 _ _ ?_
  refine wp_seq_k (fun K4 k4 => ?_)
  refine wp_seq_k (fun K5 k5 => ?_)
  refine gs [.det (QV12 f0a g0a f0b g0b f0c g0c f0d g0d f0e g0e f0f g0f), .det (.bool true), .det (.bool false), .det (.bool false), .det (QV12 f1a g1a f1b g1b f1c g1c f1d g1d f1e g1e f1f g1f), .det (.bool true), .det (.bool false), .det (.bool false), .det (.bool false), .det (QV12 f2a g2a f2b g2b f2c g2c f2d g2d f2e g2e f2f g2f), .det (.bool false), .det (.bool true), .det (.bool true)] [0, 1, 2, 3, 4, 5, 6, 7, 8, 9, 10, 11, 12] [0, 1, 3, 7, 15, 31, 63, 127, 255, 511, 1023, 2047, 4095] (fun L => [QV12 f0a g0a f0b g0b f0c g0c f0d g0d f0e g0e f0f g0f, QV12 f1a g1a f1b g1b f1c g1c f1d g1d f1e g1e f1f g1f, QV12 f2a g2a f2b g2b f2c g2c f2d g2d f2e g2e f2f g2f, .int .u64 ((m : Nat) : Int), .int .u64 ((l : Nat) : Int), pt (L0.b 0) 0, pt (L0.b 1) 0, pt (L0.b 2) 0, undef, undef, .bool false, undef, undef, undef, undef, undef, .bool true, .bool false, QV12 f0a g0a f0b g0b f0c g0c f0d g0d f0e g0e f0f g0f, .bool true, .bool false, .bool false, QV12 f1a g1a f1b g1b f1c g1c f1d g1d f1e g1e f1f g1f, .bool true, .bool false, .bool false, .bool false, QV12 f2a g2a f2b g2b f2c g2c f2d g2d f2e g2e f2f g2f, .bool false, .bool true, .bool true] ++ U 104) (fun L => [((L0.b 0), QC12 f0a g0a f0b g0b f0c g0c f0d g0d f0e g0e f0f g0f), ((L0.b 1), QC12 f1a g1a f1b g1b f1c g1c f1d g1d f1e g1e f1f g1f), ((L0.b 2), QC12 f2a g2a f2b g2b f2c g2c f2d g2d f2e g2e f2f g2f)]) hp2 ⟨
    oL 0 0 r12, oC K.stay hg hm, oN, oM, oL 1 0 r12, oC K.stay hg hm2, oN, oP, oM, oL 2 0 r12, oC K.stay hg hm3, oN, oP,
    trivial⟩ (fun L2 w3 hp3 => ?_)
  refine k5 _ _ ?_
  refine wp_cond_true (by kernel_rfl) ?_
  refine wp_seq_k (fun K6 k6 => ?_)
  refine gs [.det (.bool true)] [0] [0] (fun L => [QV12 f0a g0a f0b g0b f0c g0c f0d g0d f0e g0e f0f g0f, QV12 f1a g1a f1b g1b f1c g1c f1d g1d f1e g1e f1f g1f, QV12 f2a g2a f2b g2b f2c g2c f2d g2d f2e g2e f2f g2f, .int .u64 ((m : Nat) : Int), .int .u64 ((l : Nat) : Int), pt (L0.b 0) 0, pt (L0.b 1) 0, pt (L0.b 2) 0, undef, undef, .bool true, undef, undef, undef, undef, undef, .bool true, .bool false, QV12 f0a g0a f0b g0b f0c g0c f0d g0d f0e g0e f0f g0f, .bool true, .bool false, .bool false, QV12 f1a g1a f1b g1b f1c g1c f1d g1d f1e g1e f1f g1f, .bool true, .bool false, .bool false, .bool false, QV12 f2a g2a f2b g2b f2c g2c f2d g2d f2e g2e f2f g2f, .bool false, .bool true, .bool true] ++ U 104) (fun L => [((L0.b 0), QC12 f0a g0a f0b g0b f0c g0c f0d g0d f0e g0e f0f g0f), ((L0.b 1), QC12 f1a g1a f1b g1b f1c g1c f1d g1d f1e g1e f1f g1f), ((L0.b 2), QC12 f2a g2a f2b g2b f2c g2c f2d g2d f2e g2e f2f g2f)]) hp3 ⟨
    oA,
    trivial⟩ (fun L3 w4 hp4 => ?_)
  refine k6 _ _ ?_
  refine wp_ret ?_
  refine bodyPost_ret (v := .bool true) ?_ rfl ?_
  · exact res_t rfl (by kernel_rfl) _
  · exact ⟨rfl, hp4.bel⟩
set_option maxHeartbeats 4000000 in
theorem twef3 {G : World → Prop} (K : FpK G) (R : RefK) (x y z : F12) (m l : Nat) (w : World) (hg : G w) (hB : ∀ w, G w → Calls Tryd.prog 6 #[] w (Ret (.bool true) w)) (hm64 : m < 2 ^ 64) (hl64 : l < 2 ^ 64) (hx : x = 0) : Calls Tryd.prog 4 #[V12 x, V12 y, V12 z, .int .u64 ((m : Nat) : Int), .int .u64 ((l : Nat) : Int)] w (Ret (.bool true) w) := by
  have hp0 := Heap.start w
  go_enter Tryd.func4, Tryd.ntmps4
  refine wp_seq_k (fun K1 k1 => ?_)
  refine gs [.alloc (C12 x), .alloc (C12 y), .alloc (C12 z), .det (.bool false)] [0, 1, 2, 3] [0, 0, 0, 0] (fun L => [V12 x, V12 y, V12 z, .int .u64 ((m : Nat) : Int), .int .u64 ((l : Nat) : Int), pt (L.b 0) 0, pt (L.b 1) 0, pt (L.b 2) 0, undef, undef, .bool false] ++ U 124) (fun L => [(L.b 0, C12 x), (L.b 1, C12 y), (L.b 2, C12 z)]) hp0 ⟨
    oB, oB, oB, oA,
    trivial⟩ (fun L0 w1 hp1 => ?_)
  refine k1 _ _ ?_
  refine wp_seq_k (fun K2 k2 => ?_)
  refine wp_seq_k (fun K3 k3 => ?_)
  refine gs [.det (.bool true), .det (.bool false)] [0, 1] [0, 1] (fun L => [V12 x, V12 y, V12 z, .int .u64 ((m : Nat) : Int), .int .u64 ((l : Nat) : Int), pt (L0.b 0) 0, pt (L0.b 1) 0, pt (L0.b 2) 0, undef, undef, .bool false, undef, undef, undef, undef, undef, .bool true, .bool false] ++ U 117) (fun L => [((L0.b 0), C12 x), ((L0.b 1), C12 y), ((L0.b 2), C12 z)]) hp1 ⟨
    oC K.stay hg hB, oN,
    trivial⟩ (fun L1 w2 hp2 => ?_)
  refine k3 _ _ ?_
  refine wp_cond_false (by kernel_rfl) ?_
  refine skips ?_
  refine k2 _ _ ?_
  refine wp_seq_k (fun K4 k4 => ?_)
  refine wp_seq_k (fun K5 k5 => ?_)
  refine gs [.det (V12 x), .det (.bool true), .det (.bool false), .det (.bool false), .det (V12 y), .det (.bool true), .det (.bool false), .det (.bool false), .det (.bool false), .det (V12 z), .det (.bool true), .det (.bool false), .det (.bool false)] [0, 1, 2, 3, 4, 5, 6, 7, 8, 9, 10, 11, 12] [0, 1, 3, 7, 15, 31, 63, 127, 255, 511, 1023, 2047, 4095] (fun L => [V12 x, V12 y, V12 z, .int .u64 ((m : Nat) : Int), .int .u64 ((l : Nat) : Int), pt (L0.b 0) 0, pt (L0.b 1) 0, pt (L0.b 2) 0, undef, undef, .bool false, undef, undef, undef, undef, undef, .bool true, .bool false, V12 x, .bool true, .bool false, .bool false, V12 y, .bool true, .bool false, .bool false, .bool false, V12 z, .bool true, .bool false, .bool false] ++ U 104) (fun L => [((L0.b 0), C12 x), ((L0.b 1), C12 y), ((L0.b 2), C12 z)]) hp2 ⟨
    oL 0 0 r12, oR (ref5May12P R x), oN, oM, oL 1 0 r12, oR (ref5May12P R y), oN, oP, oM, oL 2 0 r12, oR (ref5May12P R z), oN, oP,
    trivial⟩ (fun L2 w3 hp3 => ?_)
  refine k5 _ _ ?_
  refine wp_cond_false (by kernel_rfl) ?_
  refine skips ?_
  refine k4 _ _ ?_
  refine wp_seq_k (fun K6 k6 => ?_)
  refine gs [.det (V12 x), .det (.tuple #[V12 0, .int .i64 7]), .det (.tuple #[V12 0, .int .i64 7]), .det (V12 0), .det (.int .i64 7), .alloc (C12 0), .store (.new 5) 0 (C12 0) (C12 0), .det (.int .i64 7)] [0, 1, 2, 3, 4, 5, 6, 7] [0, 1, 3, 7, 7, 0, 47, 127] (fun L => [V12 x, V12 y, V12 z, .int .u64 ((m : Nat) : Int), .int .u64 ((l : Nat) : Int), pt (L0.b 0) 0, pt (L0.b 1) 0, pt (L0.b 2) 0, undef, undef, .bool false, pt (L.b 5) 0, .int .i64 7, undef, undef, undef, .bool true, .bool false, V12 x, .bool true, .bool false, .bool false, V12 y, .bool true, .bool false, .bool false, .bool false, V12 z, .bool true, .bool false, .bool false, .tuple #[V12 0, .int .i64 7], V12 x, .tuple #[V12 0, .int .i64 7], V12 0, .int .i64 7] ++ U 99) (fun L => [((L0.b 0), C12 x), ((L0.b 1), C12 y), ((L0.b 2), C12 z), (L.b 5, C12 0)]) hp3 ⟨
    oL 0 0 r12, oH (v := .tuple #[V12 0, .int .i64 7]) (vs := #[V12 x]) (fun w hb _ => fp12Inv0 K x w (K.stay hg hb) (by rw [hx]; exact F12.norm_of_zero)), oM, oX,
    oX, oZ r12, oT r12, oA,
    trivial⟩ (fun L3 w4 hp4 => ?_)
  refine k6 _ _ ?_
  refine wp_seq_k (fun K7 k7 => ?_)
  refine dr [.det (V12 x), .det (V12 y), .det (V12 (x + y)), .det (V12 z), .det (V12 ((x + y) * z)), .det (V12 x), .det (V12 z), .det (V12 (x * z)), .det (V12 y), .det (V12 z), .det (V12 (y * z)), .det (V12 ((x * z) + (y * z))), .det (.bool true), .det (.bool true), .det (V12 x), .det (V12 y), .det (V12 z), .det (V12 (y * z)), .det (V12 (x * (y * z))), .det (V12 x), .det (V12 y), .det (V12 (x * y)), .det (V12 z), .det (V12 ((x * y) * z)), .det (.bool true), .det (.bool true), .det (.bool true), .det (V12 x), .det (V12 y), .det (V12 (x * y)), .det (V12 y), .det (V12 x), .det (V12 (y * x)), .det (.bool true), .det (.bool true), .det (.bool true)] [0, 1, 2, 3, 4, 5, 6, 7, 8, 9, 10, 11, 12, 13, 14, 15, 16, 17, 18, 19, 20, 21, 22, 23, 24, 25, 26, 27, 28, 29, 30, 31, 32, 33, 34, 35] [0, 0, 3, 0, 15, 0, 0, 127, 0, 0, 1023, 2047, 4095, 8191, 16383, 16383, 16383, 114687, 262143, 16383, 16383, 2097151, 16383, 8388607, 16777215, 33554431, 67108863, 134217727, 134217727, 536870911, 134217727, 134217727, 4294967295, 8589934591, 17179869183, 34359738367] (fun L => [V12 x, V12 y, V12 z, .int .u64 ((m : Nat) : Int), .int .u64 ((l : Nat) : Int), pt (L0.b 0) 0, pt (L0.b 1) 0, pt (L0.b 2) 0, undef, undef, .bool false, pt (L3.b 5) 0, .int .i64 7, .bool true, undef, undef, .bool true, .bool false, V12 x, .bool true, .bool false, .bool false, V12 y, .bool true, .bool false, .bool false, .bool false, V12 z, .bool true, .bool false, .bool false, .tuple #[V12 0, .int .i64 7], V12 x, .tuple #[V12 0, .int .i64 7], V12 0, .int .i64 7, V12 x, V12 y, V12 (x + y), V12 z, V12 ((x + y) * z), V12 x, V12 z, V12 (x * z), V12 y, V12 z, V12 (y * z), V12 ((x * z) + (y * z)), .bool true, .bool true, V12 x, V12 y, V12 z, V12 (y * z), V12 (x * (y * z)), V12 x, V12 y, V12 (x * y), V12 z, V12 ((x * y) * z), .bool true, .bool true, .bool true, V12 x, V12 y, V12 (x * y), V12 y, V12 x, V12 (y * x), .bool true, .bool true] ++ U 64) (fun L => [((L0.b 0), C12 x), ((L0.b 1), C12 y), ((L0.b 2), C12 z), ((L3.b 5), C12 0)]) hp4 ⟨
    oL 0 0 r12, oL 1 0 r12, oC K.stay hg (fp12Add K x y), oL 2 0 r12, oC K.stay hg (fp12Mul K (x + y) z), oL 0 0 r12, oL 2 0 r12, oC K.stay hg (fp12Mul K x z), oL 1 0 r12,
    oL 2 0 r12, oC K.stay hg (fp12Mul K y z), oC K.stay hg (fp12Add K (x * z) (y * z)), oE (a := ((x + y) * z)) (b := ((x * z) + (y * z))) q12 (yes (Rn.CR.add_mul x y z)),
    oM, oL 0 0 r12, oL 1 0 r12, oL 2 0 r12, oC K.stay hg (fp12Mul K y z), oC K.stay hg (fp12Mul K x (y * z)), oL 0 0 r12, oL 1 0 r12, oC K.stay hg (fp12Mul K x y),
    oL 2 0 r12, oC K.stay hg (fp12Mul K (x * y) z), oE (a := (x * (y * z))) (b := ((x * y) * z)) q12 (yes ((Rn.CR.mul_assoc x y z).symm)), oP, oM, oL 0 0 r12, oL 1 0 r12,
    oC K.stay hg (fp12Mul K x y), oL 1 0 r12, oL 0 0 r12, oC K.stay hg (fp12Mul K y x), oE (a := (x * y)) (b := (y * x)) q12 (yes (Rn.CR.mul_comm x y)), oP, oA,
    trivial⟩ (fun L4 w5 hp5 => ?_)
  refine k7 _ _ ?_
  refine wp_seq_k (fun K8 k8 => ?_)
  refine dr [.det (V12 x), .det (V12 y), .det (V12 (x * y)), .det (V12 ((x * y).conj)), .det (V12 x), .det (V12 x.conj), .det (V12 y), .det (V12 y.conj), .det (V12 (x.conj * y.conj)), .det (.bool true), .det (.bool true), .det (V12 x), .det (V12 x.conj), .det (V12 x.conj.conj), .det (V12 x), .det (.bool true), .det (.bool true), .det (.bool true)] [0, 1, 2, 3, 4, 5, 6, 7, 8, 9, 10, 11, 12, 13, 14, 15, 16, 17] [0, 0, 3, 7, 0, 31, 0, 127, 255, 511, 1023, 2047, 4095, 8191, 2047, 32767, 65535, 131071] (fun L => [V12 x, V12 y, V12 z, .int .u64 ((m : Nat) : Int), .int .u64 ((l : Nat) : Int), pt (L0.b 0) 0, pt (L0.b 1) 0, pt (L0.b 2) 0, undef, undef, .bool false, pt (L3.b 5) 0, .int .i64 7, .bool true, .bool true, undef, .bool true, .bool false, V12 x, .bool true, .bool false, .bool false, V12 y, .bool true, .bool false, .bool false, .bool false, V12 z, .bool true, .bool false, .bool false, .tuple #[V12 0, .int .i64 7], V12 x, .tuple #[V12 0, .int .i64 7], V12 0, .int .i64 7, V12 x, V12 y, V12 (x + y), V12 z, V12 ((x + y) * z), V12 x, V12 z, V12 (x * z), V12 y, V12 z, V12 (y * z), V12 ((x * z) + (y * z)), .bool true, .bool true, V12 x, V12 y, V12 z, V12 (y * z), V12 (x * (y * z)), V12 x, V12 y, V12 (x * y), V12 z, V12 ((x * y) * z), .bool true, .bool true, .bool true, V12 x, V12 y, V12 (x * y), V12 y, V12 x, V12 (y * x), .bool true, .bool true, V12 x, V12 y, V12 (x * y), V12 ((x * y).conj), V12 x, V12 x.conj, V12 y, V12 y.conj, V12 (x.conj * y.conj), .bool true, .bool true, V12 x, V12 x.conj, V12 x.conj.conj, V12 x, .bool true, .bool true] ++ U 47) (fun L => [((L0.b 0), C12 x), ((L0.b 1), C12 y), ((L0.b 2), C12 z), ((L3.b 5), C12 0)]) hp5 ⟨
    oL 0 0 r12, oL 1 0 r12, oC K.stay hg (fp12Mul K x y), oC K.stay hg (fp12Conj K (x * y)), oL 0 0 r12, oC K.stay hg (fp12Conj K x), oL 1 0 r12, oC K.stay hg (fp12Conj K y),
    oC K.stay hg (fp12Mul K x.conj y.conj), oE (a := (x * y).conj) (b := (x.conj * y.conj)) q12 (yes (F12.conj_mul x y)), oM, oL 0 0 r12, oC K.stay hg (fp12Conj K x),
    oC K.stay hg (fp12Conj K x.conj), oL 0 0 r12, oE (a := x.conj.conj) (b := x) q12 (yes (F12.conj_conj x)), oP, oA,
    trivial⟩ (fun L5 w6 hp6 => ?_)
  refine k8 _ _ ?_
  refine wp_seq_k (fun K9 k9 => ?_)
  refine gs [.det (.int .u64 ((m : Nat) : Int)), .det (.int .u64 ((m / 2 : Nat) : Int)), .det (.int .u64 ((l : Nat) : Int)), .det (.int .u64 ((l / 2 : Nat) : Int)), .det (.int .u64 ((m / 2 : Nat) : Int)), .det (.int .u64 ((l / 2 : Nat) : Int))] [0, 1, 2, 3, 4, 5] [0, 1, 0, 4, 3, 31] (fun L => [V12 x, V12 y, V12 z, .int .u64 ((m / 2 : Nat) : Int), .int .u64 ((l / 2 : Nat) : Int), pt (L0.b 0) 0, pt (L0.b 1) 0, pt (L0.b 2) 0, undef, undef, .bool false, pt (L3.b 5) 0, .int .i64 7, .bool true, .bool true, undef, .bool true, .bool false, V12 x, .bool true, .bool false, .bool false, V12 y, .bool true, .bool false, .bool false, .bool false, V12 z, .bool true, .bool false, .bool false, .tuple #[V12 0, .int .i64 7], V12 x, .tuple #[V12 0, .int .i64 7], V12 0, .int .i64 7, V12 x, V12 y, V12 (x + y), V12 z, V12 ((x + y) * z), V12 x, V12 z, V12 (x * z), V12 y, V12 z, V12 (y * z), V12 ((x * z) + (y * z)), .bool true, .bool true, V12 x, V12 y, V12 z, V12 (y * z), V12 (x * (y * z)), V12 x, V12 y, V12 (x * y), V12 z, V12 ((x * y) * z), .bool true, .bool true, .bool true, V12 x, V12 y, V12 (x * y), V12 y, V12 x, V12 (y * x), .bool true, .bool true, V12 x, V12 y, V12 (x * y), V12 ((x * y).conj), V12 x, V12 x.conj, V12 y, V12 y.conj, V12 (x.conj * y.conj), .bool true, .bool true, V12 x, V12 x.conj, V12 x.conj.conj, V12 x, .bool true, .bool true, .int .u64 ((m : Nat) : Int), .int .u64 ((m / 2 : Nat) : Int), .int .u64 ((l : Nat) : Int), .int .u64 ((l / 2 : Nat) : Int)] ++ U 43) (fun L => [((L0.b 0), C12 x), ((L0.b 1), C12 y), ((L0.b 2), C12 z), ((L3.b 5), C12 0)]) hp6 ⟨
    oM, oJ .u64 .u64 ((m : Nat) : Int) 1 (h := fun w => shr1 _ m w), oM, oJ .u64 .u64 ((l : Nat) : Int) 1 (h := fun w => shr1 _ l w), oA, oA,
    trivial⟩ (fun L6 w7 hp7 => ?_)
  refine k9 _ _ ?_
  refine wp_seq_k (fun K10 k10 => ?_)
  refine dr [.det (V12 x), .det (.int .u64 ((m / 2 : Nat) : Int)), .any (isOne ((m / 2 : Nat) : Int)), .det (V12 (npw x (m / 2))), .det (V12 x), .det (.int .u64 ((l / 2 : Nat) : Int)), .any (isOne ((l / 2 : Nat) : Int)), .det (V12 (npw x (l / 2))), .det (V12 ((npw x (m / 2)) * (npw x (l / 2)))), .det (V12 x), .det (.int .u64 ((m / 2 : Nat) : Int)), .det (.int .u64 ((l / 2 : Nat) : Int)), .det (.int .u64 ((m / 2 + l / 2 : Nat) : Int)), .any (isOne ((m / 2 + l / 2 : Nat) : Int)), .det (V12 (npw x (m / 2 + l / 2))), .det (.bool true), .det (.bool true)] [0, 1, 2, 3, 4, 5, 6, 7, 8, 9, 10, 11, 12, 13, 14, 15, 16] [0, 0, 2, 7, 0, 0, 32, 127, 255, 0, 0, 0, 3072, 7168, 16383, 32767, 65535] (fun L => [V12 x, V12 y, V12 z, .int .u64 ((m / 2 : Nat) : Int), .int .u64 ((l / 2 : Nat) : Int), pt (L0.b 0) 0, pt (L0.b 1) 0, pt (L0.b 2) 0, undef, undef, .bool false, pt (L3.b 5) 0, .int .i64 7, .bool true, .bool true, .bool true, .bool true, .bool false, V12 x, .bool true, .bool false, .bool false, V12 y, .bool true, .bool false, .bool false, .bool false, V12 z, .bool true, .bool false, .bool false, .tuple #[V12 0, .int .i64 7], V12 x, .tuple #[V12 0, .int .i64 7], V12 0, .int .i64 7, V12 x, V12 y, V12 (x + y), V12 z, V12 ((x + y) * z), V12 x, V12 z, V12 (x * z), V12 y, V12 z, V12 (y * z), V12 ((x * z) + (y * z)), .bool true, .bool true, V12 x, V12 y, V12 z, V12 (y * z), V12 (x * (y * z)), V12 x, V12 y, V12 (x * y), V12 z, V12 ((x * y) * z), .bool true, .bool true, .bool true, V12 x, V12 y, V12 (x * y), V12 y, V12 x, V12 (y * x), .bool true, .bool true, V12 x, V12 y, V12 (x * y), V12 ((x * y).conj), V12 x, V12 x.conj, V12 y, V12 y.conj, V12 (x.conj * y.conj), .bool true, .bool true, V12 x, V12 x.conj, V12 x.conj.conj, V12 x, .bool true, .bool true, .int .u64 ((m : Nat) : Int), .int .u64 ((m / 2 : Nat) : Int), .int .u64 ((l : Nat) : Int), .int .u64 ((l / 2 : Nat) : Int), V12 x, .int .u64 ((m / 2 : Nat) : Int), L.v 2, V12 (npw x (m / 2)), V12 x, .int .u64 ((l / 2 : Nat) : Int), L.v 6, V12 (npw x (l / 2)), V12 ((npw x (m / 2)) * (npw x (l / 2))), V12 x, .int .u64 ((m / 2 : Nat) : Int), .int .u64 ((l / 2 : Nat) : Int), .int .u64 ((m / 2 + l / 2 : Nat) : Int), L.v 13, V12 (npw x (m / 2 + l / 2)), .bool true] ++ U 27) (fun L => [((L0.b 0), C12 x), ((L0.b 1), C12 y), ((L0.b 2), C12 z), ((L3.b 5), C12 0)]) hp7 ⟨
    oL 0 0 r12, oM, oS1 Tryd.underlying39 (by kernel_rfl) (by kernel_rfl), oCS (fun L => #[V12 x, L.v 2]) (fun L w hs => powOne K x (m / 2) _ w (K.stay hg hs.bel) (by omega) (hs.any 2 _ rfl rfl)),
    oL 0 0 r12, oM, oS1 Tryd.underlying39 (by kernel_rfl) (by kernel_rfl), oCS (fun L => #[V12 x, L.v 6]) (fun L w hs => powOne K x (l / 2) _ w (K.stay hg hs.bel) (by omega) (hs.any 6 _ rfl rfl)),
    oC K.stay hg (fp12Mul K (npw x (m / 2)) (npw x (l / 2))), oL 0 0 r12, oM, oM, oJ .u64 .u64 ((m / 2 : Nat) : Int) ((l / 2 : Nat) : Int) (h := fun w => add64 _ _ _ (by omega) w),
    oS1 Tryd.underlying39 (by kernel_rfl) (by kernel_rfl), oCS (fun L => #[V12 x, L.v 13]) (fun L w hs => powOne K x (m / 2 + l / 2) _ w (K.stay hg hs.bel) (by omega) (hs.any 13 _ rfl rfl)),
    oE (a := ((npw x (m / 2)) * (npw x (l / 2)))) (b := (npw x (m / 2 + l / 2))) q12 (yes ((npw_add x (m / 2) (l / 2)).symm)), oA,
    trivial⟩ (fun L7 w8 hp8 => ?_)
  refine k10 _ _ ?_
  refine wp_seq_k (fun K11 k11 => ?_)
  refine gs [.det (.bool true), .det (.bool true), .det (.bool true), .det (.bool true), .det (.bool true), .det (.bool true), .det (.bool true), .det (.bool true), .det (V12 x), .det (V12 0), .det (.bool true), .det (.bool true), .det (.int .i64 7), .det (.bool true), .det (.bool true), .det (.bool true), .det undef, .det undef, .det undef, .det undef, .det undef, .det undef, .det undef, .det undef, .det undef, .det (.bool true), .det (.bool true), .det (.bool true)] [0, 1, 2, 3, 4, 5, 6, 7, 8, 9, 10, 11, 12, 13, 14, 15, 16, 17, 18, 19, 20, 21, 22, 23, 24, 25, 26, 27] [0, 1, 3, 7, 15, 31, 63, 127, 255, 255, 1023, 2047, 4095, 8191, 16383, 32767, 65535, 131071, 262143, 524287, 524287, 2097151, 4194303, 8388607, 16777215, 33554431, 67108863, 134217727] (fun L => [V12 x, V12 y, V12 z, .int .u64 ((m / 2 : Nat) : Int), .int .u64 ((l / 2 : Nat) : Int), pt (L0.b 0) 0, pt (L0.b 1) 0, pt (L0.b 2) 0, undef, undef, .bool true, pt (L3.b 5) 0, .int .i64 7, .bool true, .bool true, .bool true, .bool true, .bool false, V12 x, .bool true, .bool false, .bool false, V12 y, .bool true, .bool false, .bool false, .bool false, V12 z, .bool true, .bool false, .bool false, .tuple #[V12 0, .int .i64 7], V12 x, .tuple #[V12 0, .int .i64 7], V12 0, .int .i64 7, V12 x, V12 y, V12 (x + y), V12 z, V12 ((x + y) * z), V12 x, V12 z, V12 (x * z), V12 y, V12 z, V12 (y * z), V12 ((x * z) + (y * z)), .bool true, .bool true, V12 x, V12 y, V12 z, V12 (y * z), V12 (x * (y * z)), V12 x, V12 y, V12 (x * y), V12 z, V12 ((x * y) * z), .bool true, .bool true, .bool true, V12 x, V12 y, V12 (x * y), V12 y, V12 x, V12 (y * x), .bool true, .bool true, V12 x, V12 y, V12 (x * y), V12 ((x * y).conj), V12 x, V12 x.conj, V12 y, V12 y.conj, V12 (x.conj * y.conj), .bool true, .bool true, V12 x, V12 x.conj, V12 x.conj.conj, V12 x, .bool true, .bool true, .int .u64 ((m : Nat) : Int), .int .u64 ((m / 2 : Nat) : Int), .int .u64 ((l : Nat) : Int), .int .u64 ((l / 2 : Nat) : Int), V12 x, .int .u64 ((m / 2 : Nat) : Int), (L7.v 2), V12 (npw x (m / 2)), V12 x, .int .u64 ((l / 2 : Nat) : Int), (L7.v 6), V12 (npw x (l / 2)), V12 ((npw x (m / 2)) * (npw x (l / 2))), V12 x, .int .u64 ((m / 2 : Nat) : Int), .int .u64 ((l / 2 : Nat) : Int), .int .u64 ((m / 2 + l / 2 : Nat) : Int), (L7.v 13), V12 (npw x (m / 2 + l / 2)), .bool true, .bool true, .bool true, .bool true, .bool true, .bool true, .bool true, .bool true, .bool true, V12 x, V12 0, .bool true, .bool true, .int .i64 7, .bool true, .bool true, .bool true, undef, undef, undef, undef, undef, undef, undef, undef, undef, .bool true, .bool true]) (fun L => [((L0.b 0), C12 x), ((L0.b 1), C12 y), ((L0.b 2), C12 z), ((L3.b 5), C12 0)]) hp8 ⟨
    oM, oM, oM, oP, oM, oM, oP, oM, oL 0 0 r12, oD build12n, oE (a := x) (b := 0) q12 (yes hx), oM, oM, oJ .i64 .i64 7 7 (h := fun w => (eqlI _ _ _ _ w).trans rfl),
    oP, oM, oS, oS, oS, oS, oS, oS, oS, oS, oS, oP, oP, oA,
    trivial⟩ (fun L8 w9 hp9 => ?_)
  refine k11 _ _ ?_
  refine wp_ret ?_
  refine bodyPost_ret (v := .bool true) ?_ rfl ?_
  · exact res_t rfl (by kernel_rfl) _
  · exact ⟨rfl, hp9.bel⟩
set_option maxHeartbeats 4000000 in
theorem twef4 {G : World → Prop} (K : FpK G) (R : RefK) (x y z : F12) (m l : Nat) (w : World) (hg : G w) (hB : ∀ w, G w → Calls Tryd.prog 6 #[] w (Ret (.bool true) w)) (hm64 : m < 2 ^ 64) (hl64 : l < 2 ^ 64) (hx : x ≠ 0) : Calls Tryd.prog 4 #[V12 x, V12 y, V12 z, .int .u64 ((m : Nat) : Int), .int .u64 ((l : Nat) : Int)] w (Ret (.bool true) w) := by
  have hp0 := Heap.start w
  go_enter Tryd.func4, Tryd.ntmps4
  refine wp_seq_k (fun K1 k1 => ?_)
  refine gs [.alloc (C12 x), .alloc (C12 y), .alloc (C12 z), .det (.bool false)] [0, 1, 2, 3] [0, 0, 0, 0] (fun L => [V12 x, V12 y, V12 z, .int .u64 ((m : Nat) : Int), .int .u64 ((l : Nat) : Int), pt (L.b 0) 0, pt (L.b 1) 0, pt (L.b 2) 0, undef, undef, .bool false] ++ U 124) (fun L => [(L.b 0, C12 x), (L.b 1, C12 y), (L.b 2, C12 z)]) hp0 ⟨
    oB, oB, oB, oA,
    trivial⟩ (fun L0 w1 hp1 => ?_)
  refine k1 _ _ ?_
  refine wp_seq_k (fun K2 k2 => ?_)
  refine wp_seq_k (fun K3 k3 => ?_)
  refine gs [.det (.bool true), .det (.bool false)] [0, 1] [0, 1] (fun L => [V12 x, V12 y, V12 z, .int .u64 ((m : Nat) : Int), .int .u64 ((l : Nat) : Int), pt (L0.b 0) 0, pt (L0.b 1) 0, pt (L0.b 2) 0, undef, undef, .bool false, undef, undef, undef, undef, undef, .bool true, .bool false] ++ U 117) (fun L => [((L0.b 0), C12 x), ((L0.b 1), C12 y), ((L0.b 2), C12 z)]) hp1 ⟨
    oC K.stay hg hB, oN,
    trivial⟩ (fun L1 w2 hp2 => ?_)
  refine k3 _ _ ?_
  refine wp_cond_false (by kernel_rfl) ?_
  refine skips ?_
  refine k2 _ _ ?_
  refine wp_seq_k (fun K4 k4 => ?_)
  refine wp_seq_k (fun K5 k5 => ?_)
  refine gs [.det (V12 x), .det (.bool true), .det (.bool false), .det (.bool false), .det (V12 y), .det (.bool true), .det (.bool false), .det (.bool false), .det (.bool false), .det (V12 z), .det (.bool true), .det (.bool false), .det (.bool false)] [0, 1, 2, 3, 4, 5, 6, 7, 8, 9, 10, 11, 12] [0, 1, 3, 7, 15, 31, 63, 127, 255, 511, 1023, 2047, 4095] (fun L => [V12 x, V12 y, V12 z, .int .u64 ((m : Nat) : Int), .int .u64 ((l : Nat) : Int), pt (L0.b 0) 0, pt (L0.b 1) 0, pt (L0.b 2) 0, undef, undef, .bool false, undef, undef, undef, undef, undef, .bool true, .bool false, V12 x, .bool true, .bool false, .bool false, V12 y, .bool true, .bool false, .bool false, .bool false, V12 z, .bool true, .bool false, .bool false] ++ U 104) (fun L => [((L0.b 0), C12 x), ((L0.b 1), C12 y), ((L0.b 2), C12 z)]) hp2 ⟨
    oL 0 0 r12, oR (ref5May12P R x), oN, oM, oL 1 0 r12, oR (ref5May12P R y), oN, oP, oM, oL 2 0 r12, oR (ref5May12P R z), oN, oP,
    trivial⟩ (fun L2 w3 hp3 => ?_)
  refine k5 _ _ ?_
  refine wp_cond_false (by kernel_rfl) ?_
  refine skips ?_
  refine k4 _ _ ?_
  refine wp_seq_k (fun K6 k6 => ?_)
  refine gs [.det (V12 x), .det (.tuple #[V12 x.inv, .int .i64 0]), .det (.tuple #[V12 x.inv, .int .i64 0]), .det (V12 x.inv), .det (.int .i64 0), .alloc (C12 0), .store (.new 5) 0 (C12 x.inv) (C12 x.inv), .det (.int .i64 0)] [0, 1, 2, 3, 4, 5, 6, 7] [0, 1, 3, 7, 7, 0, 47, 127] (fun L => [V12 x, V12 y, V12 z, .int .u64 ((m : Nat) : Int), .int .u64 ((l : Nat) : Int), pt (L0.b 0) 0, pt (L0.b 1) 0, pt (L0.b 2) 0, undef, undef, .bool false, pt (L.b 5) 0, .int .i64 0, undef, undef, undef, .bool true, .bool false, V12 x, .bool true, .bool false, .bool false, V12 y, .bool true, .bool false, .bool false, .bool false, V12 z, .bool true, .bool false, .bool false, .tuple #[V12 x.inv, .int .i64 0], V12 x, .tuple #[V12 x.inv, .int .i64 0], V12 x.inv, .int .i64 0] ++ U 99) (fun L => [((L0.b 0), C12 x), ((L0.b 1), C12 y), ((L0.b 2), C12 z), (L.b 5, C12 x.inv)]) hp3 ⟨
    oL 0 0 r12, oH (v := .tuple #[V12 x.inv, .int .i64 0]) (vs := #[V12 x]) (fun w hb _ => fp12Inv K x w (K.stay hg hb) (F12.norm_ne hx)), oM, oX, oX, oZ r12, oT r12,
    oA,
    trivial⟩ (fun L3 w4 hp4 => ?_)
  refine k6 _ _ ?_
  refine wp_seq_k (fun K7 k7 => ?_)
  refine dr [.det (V12 x), .det (V12 y), .det (V12 (x + y)), .det (V12 z), .det (V12 ((x + y) * z)), .det (V12 x), .det (V12 z), .det (V12 (x * z)), .det (V12 y), .det (V12 z), .det (V12 (y * z)), .det (V12 ((x * z) + (y * z))), .det (.bool true), .det (.bool true), .det (V12 x), .det (V12 y), .det (V12 z), .det (V12 (y * z)), .det (V12 (x * (y * z))), .det (V12 x), .det (V12 y), .det (V12 (x * y)), .det (V12 z), .det (V12 ((x * y) * z)), .det (.bool true), .det (.bool true), .det (.bool true), .det (V12 x), .det (V12 y), .det (V12 (x * y)), .det (V12 y), .det (V12 x), .det (V12 (y * x)), .det (.bool true), .det (.bool true), .det (.bool true)] [0, 1, 2, 3, 4, 5, 6, 7, 8, 9, 10, 11, 12, 13, 14, 15, 16, 17, 18, 19, 20, 21, 22, 23, 24, 25, 26, 27, 28, 29, 30, 31, 32, 33, 34, 35] [0, 0, 3, 0, 15, 0, 0, 127, 0, 0, 1023, 2047, 4095, 8191, 16383, 16383, 16383, 114687, 262143, 16383, 16383, 2097151, 16383, 8388607, 16777215, 33554431, 67108863, 134217727, 134217727, 536870911, 134217727, 134217727, 4294967295, 8589934591, 17179869183, 34359738367] (fun L => [V12 x, V12 y, V12 z, .int .u64 ((m : Nat) : Int), .int .u64 ((l : Nat) : Int), pt (L0.b 0) 0, pt (L0.b 1) 0, pt (L0.b 2) 0, undef, undef, .bool false, pt (L3.b 5) 0, .int .i64 0, .bool true, undef, undef, .bool true, .bool false, V12 x, .bool true, .bool false, .bool false, V12 y, .bool true, .bool false, .bool false, .bool false, V12 z, .bool true, .bool false, .bool false, .tuple #[V12 x.inv, .int .i64 0], V12 x, .tuple #[V12 x.inv, .int .i64 0], V12 x.inv, .int .i64 0, V12 x, V12 y, V12 (x + y), V12 z, V12 ((x + y) * z), V12 x, V12 z, V12 (x * z), V12 y, V12 z, V12 (y * z), V12 ((x * z) + (y * z)), .bool true, .bool true, V12 x, V12 y, V12 z, V12 (y * z), V12 (x * (y * z)), V12 x, V12 y, V12 (x * y), V12 z, V12 ((x * y) * z), .bool true, .bool true, .bool true, V12 x, V12 y, V12 (x * y), V12 y, V12 x, V12 (y * x), .bool true, .bool true] ++ U 64) (fun L => [((L0.b 0), C12 x), ((L0.b 1), C12 y), ((L0.b 2), C12 z), ((L3.b 5), C12 x.inv)]) hp4 ⟨
    oL 0 0 r12, oL 1 0 r12, oC K.stay hg (fp12Add K x y), oL 2 0 r12, oC K.stay hg (fp12Mul K (x + y) z), oL 0 0 r12, oL 2 0 r12, oC K.stay hg (fp12Mul K x z), oL 1 0 r12,
    oL 2 0 r12, oC K.stay hg (fp12Mul K y z), oC K.stay hg (fp12Add K (x * z) (y * z)), oE (a := ((x + y) * z)) (b := ((x * z) + (y * z))) q12 (yes (Rn.CR.add_mul x y z)),
    oM, oL 0 0 r12, oL 1 0 r12, oL 2 0 r12, oC K.stay hg (fp12Mul K y z), oC K.stay hg (fp12Mul K x (y * z)), oL 0 0 r12, oL 1 0 r12, oC K.stay hg (fp12Mul K x y),
    oL 2 0 r12, oC K.stay hg (fp12Mul K (x * y) z), oE (a := (x * (y * z))) (b := ((x * y) * z)) q12 (yes ((Rn.CR.mul_assoc x y z).symm)), oP, oM, oL 0 0 r12, oL 1 0 r12,
    oC K.stay hg (fp12Mul K x y), oL 1 0 r12, oL 0 0 r12, oC K.stay hg (fp12Mul K y x), oE (a := (x * y)) (b := (y * x)) q12 (yes (Rn.CR.mul_comm x y)), oP, oA,
    trivial⟩ (fun L4 w5 hp5 => ?_)
  refine k7 _ _ ?_
  refine wp_seq_k (fun K8 k8 => ?_)
  refine dr [.det (V12 x), .det (V12 y), .det (V12 (x * y)), .det (V12 ((x * y).conj)), .det (V12 x), .det (V12 x.conj), .det (V12 y), .det (V12 y.conj), .det (V12 (x.conj * y.conj)), .det (.bool true), .det (.bool true), .det (V12 x), .det (V12 x.conj), .det (V12 x.conj.conj), .det (V12 x), .det (.bool true), .det (.bool true), .det (.bool true)] [0, 1, 2, 3, 4, 5, 6, 7, 8, 9, 10, 11, 12, 13, 14, 15, 16, 17] [0, 0, 3, 7, 0, 31, 0, 127, 255, 511, 1023, 2047, 4095, 8191, 2047, 32767, 65535, 131071] (fun L => [V12 x, V12 y, V12 z, .int .u64 ((m : Nat) : Int), .int .u64 ((l : Nat) : Int), pt (L0.b 0) 0, pt (L0.b 1) 0, pt (L0.b 2) 0, undef, undef, .bool false, pt (L3.b 5) 0, .int .i64 0, .bool true, .bool true, undef, .bool true, .bool false, V12 x, .bool true, .bool false, .bool false, V12 y, .bool true, .bool false, .bool false, .bool false, V12 z, .bool true, .bool false, .bool false, .tuple #[V12 x.inv, .int .i64 0], V12 x, .tuple #[V12 x.inv, .int .i64 0], V12 x.inv, .int .i64 0, V12 x, V12 y, V12 (x + y), V12 z, V12 ((x + y) * z), V12 x, V12 z, V12 (x * z), V12 y, V12 z, V12 (y * z), V12 ((x * z) + (y * z)), .bool true, .bool true, V12 x, V12 y, V12 z, V12 (y * z), V12 (x * (y * z)), V12 x, V12 y, V12 (x * y), V12 z, V12 ((x * y) * z), .bool true, .bool true, .bool true, V12 x, V12 y, V12 (x * y), V12 y, V12 x, V12 (y * x), .bool true, .bool true, V12 x, V12 y, V12 (x * y), V12 ((x * y).conj), V12 x, V12 x.conj, V12 y, V12 y.conj, V12 (x.conj * y.conj), .bool true, .bool true, V12 x, V12 x.conj, V12 x.conj.conj, V12 x, .bool true, .bool true] ++ U 47) (fun L => [((L0.b 0), C12 x), ((L0.b 1), C12 y), ((L0.b 2), C12 z), ((L3.b 5), C12 x.inv)]) hp5 ⟨
    oL 0 0 r12, oL 1 0 r12, oC K.stay hg (fp12Mul K x y), oC K.stay hg (fp12Conj K (x * y)), oL 0 0 r12, oC K.stay hg (fp12Conj K x), oL 1 0 r12, oC K.stay hg (fp12Conj K y),
    oC K.stay hg (fp12Mul K x.conj y.conj), oE (a := (x * y).conj) (b := (x.conj * y.conj)) q12 (yes (F12.conj_mul x y)), oM, oL 0 0 r12, oC K.stay hg (fp12Conj K x),
    oC K.stay hg (fp12Conj K x.conj), oL 0 0 r12, oE (a := x.conj.conj) (b := x) q12 (yes (F12.conj_conj x)), oP, oA,
    trivial⟩ (fun L5 w6 hp6 => ?_)
  refine k8 _ _ ?_
  refine wp_seq_k (fun K9 k9 => ?_)
  refine gs [.det (.int .u64 ((m : Nat) : Int)), .det (.int .u64 ((m / 2 : Nat) : Int)), .det (.int .u64 ((l : Nat) : Int)), .det (.int .u64 ((l / 2 : Nat) : Int)), .det (.int .u64 ((m / 2 : Nat) : Int)), .det (.int .u64 ((l / 2 : Nat) : Int))] [0, 1, 2, 3, 4, 5] [0, 1, 0, 4, 3, 31] (fun L => [V12 x, V12 y, V12 z, .int .u64 ((m / 2 : Nat) : Int), .int .u64 ((l / 2 : Nat) : Int), pt (L0.b 0) 0, pt (L0.b 1) 0, pt (L0.b 2) 0, undef, undef, .bool false, pt (L3.b 5) 0, .int .i64 0, .bool true, .bool true, undef, .bool true, .bool false, V12 x, .bool true, .bool false, .bool false, V12 y, .bool true, .bool false, .bool false, .bool false, V12 z, .bool true, .bool false, .bool false, .tuple #[V12 x.inv, .int .i64 0], V12 x, .tuple #[V12 x.inv, .int .i64 0], V12 x.inv, .int .i64 0, V12 x, V12 y, V12 (x + y), V12 z, V12 ((x + y) * z), V12 x, V12 z, V12 (x * z), V12 y, V12 z, V12 (y * z), V12 ((x * z) + (y * z)), .bool true, .bool true, V12 x, V12 y, V12 z, V12 (y * z), V12 (x * (y * z)), V12 x, V12 y, V12 (x * y), V12 z, V12 ((x * y) * z), .bool true, .bool true, .bool true, V12 x, V12 y, V12 (x * y), V12 y, V12 x, V12 (y * x), .bool true, .bool true, V12 x, V12 y, V12 (x * y), V12 ((x * y).conj), V12 x, V12 x.conj, V12 y, V12 y.conj, V12 (x.conj * y.conj), .bool true, .bool true, V12 x, V12 x.conj, V12 x.conj.conj, V12 x, .bool true, .bool true, .int .u64 ((m : Nat) : Int), .int .u64 ((m / 2 : Nat) : Int), .int .u64 ((l : Nat) : Int), .int .u64 ((l / 2 : Nat) : Int)] ++ U 43) (fun L => [((L0.b 0), C12 x), ((L0.b 1), C12 y), ((L0.b 2), C12 z), ((L3.b 5), C12 x.inv)]) hp6 ⟨
    oM, oJ .u64 .u64 ((m : Nat) : Int) 1 (h := fun w => shr1 _ m w), oM, oJ .u64 .u64 ((l : Nat) : Int) 1 (h := fun w => shr1 _ l w), oA, oA,
    trivial⟩ (fun L6 w7 hp7 => ?_)
  refine k9 _ _ ?_
  refine wp_seq_k (fun K10 k10 => ?_)
  refine dr [.det (V12 x), .det (.int .u64 ((m / 2 : Nat) : Int)), .any (isOne ((m / 2 : Nat) : Int)), .det (V12 (npw x (m / 2))), .det (V12 x), .det (.int .u64 ((l / 2 : Nat) : Int)), .any (isOne ((l / 2 : Nat) : Int)), .det (V12 (npw x (l / 2))), .det (V12 ((npw x (m / 2)) * (npw x (l / 2)))), .det (V12 x), .det (.int .u64 ((m / 2 : Nat) : Int)), .det (.int .u64 ((l / 2 : Nat) : Int)), .det (.int .u64 ((m / 2 + l / 2 : Nat) : Int)), .any (isOne ((m / 2 + l / 2 : Nat) : Int)), .det (V12 (npw x (m / 2 + l / 2))), .det (.bool true), .det (.bool true)] [0, 1, 2, 3, 4, 5, 6, 7, 8, 9, 10, 11, 12, 13, 14, 15, 16] [0, 0, 2, 7, 0, 0, 32, 127, 255, 0, 0, 0, 3072, 7168, 16383, 32767, 65535] (fun L => [V12 x, V12 y, V12 z, .int .u64 ((m / 2 : Nat) : Int), .int .u64 ((l / 2 : Nat) : Int), pt (L0.b 0) 0, pt (L0.b 1) 0, pt (L0.b 2) 0, undef, undef, .bool false, pt (L3.b 5) 0, .int .i64 0, .bool true, .bool true, .bool true, .bool true, .bool false, V12 x, .bool true, .bool false, .bool false, V12 y, .bool true, .bool false, .bool false, .bool false, V12 z, .bool true, .bool false, .bool false, .tuple #[V12 x.inv, .int .i64 0], V12 x, .tuple #[V12 x.inv, .int .i64 0], V12 x.inv, .int .i64 0, V12 x, V12 y, V12 (x + y), V12 z, V12 ((x + y) * z), V12 x, V12 z, V12 (x * z), V12 y, V12 z, V12 (y * z), V12 ((x * z) + (y * z)), .bool true, .bool true, V12 x, V12 y, V12 z, V12 (y * z), V12 (x * (y * z)), V12 x, V12 y, V12 (x * y), V12 z, V12 ((x * y) * z), .bool true, .bool true, .bool true, V12 x, V12 y, V12 (x * y), V12 y, V12 x, V12 (y * x), .bool true, .bool true, V12 x, V12 y, V12 (x * y), V12 ((x * y).conj), V12 x, V12 x.conj, V12 y, V12 y.conj, V12 (x.conj * y.conj), .bool true, .bool true, V12 x, V12 x.conj, V12 x.conj.conj, V12 x, .bool true, .bool true, .int .u64 ((m : Nat) : Int), .int .u64 ((m / 2 : Nat) : Int), .int .u64 ((l : Nat) : Int), .int .u64 ((l / 2 : Nat) : Int), V12 x, .int .u64 ((m / 2 : Nat) : Int), L.v 2, V12 (npw x (m / 2)), V12 x, .int .u64 ((l / 2 : Nat) : Int), L.v 6, V12 (npw x (l / 2)), V12 ((npw x (m / 2)) * (npw x (l / 2))), V12 x, .int .u64 ((m / 2 : Nat) : Int), .int .u64 ((l / 2 : Nat) : Int), .int .u64 ((m / 2 + l / 2 : Nat) : Int), L.v 13, V12 (npw x (m / 2 + l / 2)), .bool true] ++ U 27) (fun L => [((L0.b 0), C12 x), ((L0.b 1), C12 y), ((L0.b 2), C12 z), ((L3.b 5), C12 x.inv)]) hp7 ⟨
    oL 0 0 r12, oM, oS1 Tryd.underlying39 (by kernel_rfl) (by kernel_rfl), oCS (fun L => #[V12 x, L.v 2]) (fun L w hs => powOne K x (m / 2) _ w (K.stay hg hs.bel) (by omega) (hs.any 2 _ rfl rfl)),
    oL 0 0 r12, oM, oS1 Tryd.underlying39 (by kernel_rfl) (by kernel_rfl), oCS (fun L => #[V12 x, L.v 6]) (fun L w hs => powOne K x (l / 2) _ w (K.stay hg hs.bel) (by omega) (hs.any 6 _ rfl rfl)),
    oC K.stay hg (fp12Mul K (npw x (m / 2)) (npw x (l / 2))), oL 0 0 r12, oM, oM, oJ .u64 .u64 ((m / 2 : Nat) : Int) ((l / 2 : Nat) : Int) (h := fun w => add64 _ _ _ (by omega) w),
    oS1 Tryd.underlying39 (by kernel_rfl) (by kernel_rfl), oCS (fun L => #[V12 x, L.v 13]) (fun L w hs => powOne K x (m / 2 + l / 2) _ w (K.stay hg hs.bel) (by omega) (hs.any 13 _ rfl rfl)),
    oE (a := ((npw x (m / 2)) * (npw x (l / 2)))) (b := (npw x (m / 2 + l / 2))) q12 (yes ((npw_add x (m / 2) (l / 2)).symm)), oA,
    trivial⟩ (fun L7 w8 hp8 => ?_)
  refine k10 _ _ ?_
  refine wp_seq_k (fun K11 k11 => ?_)
  refine gs [.det (.bool true), .det (.bool true), .det (.bool true), .det (.bool true), .det (.bool true), .det (.bool true), .det (.bool true), .det (.bool true), .det (V12 x), .det (V12 0), .det (.bool false), .det (.bool false), .det undef, .det undef, .det (.bool false), .det (.bool false), .det (.int .i64 0), .det (.bool true), .det (.bool true), .det (V12 x), .det (V12 x.inv), .det (V12 (x * x.inv)), .det (V12 1), .det (.bool true), .det (.bool true), .det (.bool true), .det (.bool true), .det (.bool true)] [0, 1, 2, 3, 4, 5, 6, 7, 8, 9, 10, 11, 12, 13, 14, 15, 16, 17, 18, 19, 20, 21, 22, 23, 24, 25, 26, 27] [0, 1, 3, 7, 15, 31, 63, 127, 255, 255, 1023, 2047, 4095, 8191, 16383, 32767, 65535, 131071, 262143, 524287, 524287, 2097151, 4194303, 8388607, 16777215, 33554431, 67108863, 134217727] (fun L => [V12 x, V12 y, V12 z, .int .u64 ((m / 2 : Nat) : Int), .int .u64 ((l / 2 : Nat) : Int), pt (L0.b 0) 0, pt (L0.b 1) 0, pt (L0.b 2) 0, undef, undef, .bool true, pt (L3.b 5) 0, .int .i64 0, .bool true, .bool true, .bool true, .bool true, .bool false, V12 x, .bool true, .bool false, .bool false, V12 y, .bool true, .bool false, .bool false, .bool false, V12 z, .bool true, .bool false, .bool false, .tuple #[V12 x.inv, .int .i64 0], V12 x, .tuple #[V12 x.inv, .int .i64 0], V12 x.inv, .int .i64 0, V12 x, V12 y, V12 (x + y), V12 z, V12 ((x + y) * z), V12 x, V12 z, V12 (x * z), V12 y, V12 z, V12 (y * z), V12 ((x * z) + (y * z)), .bool true, .bool true, V12 x, V12 y, V12 z, V12 (y * z), V12 (x * (y * z)), V12 x, V12 y, V12 (x * y), V12 z, V12 ((x * y) * z), .bool true, .bool true, .bool true, V12 x, V12 y, V12 (x * y), V12 y, V12 x, V12 (y * x), .bool true, .bool true, V12 x, V12 y, V12 (x * y), V12 ((x * y).conj), V12 x, V12 x.conj, V12 y, V12 y.conj, V12 (x.conj * y.conj), .bool true, .bool true, V12 x, V12 x.conj, V12 x.conj.conj, V12 x, .bool true, .bool true, .int .u64 ((m : Nat) : Int), .int .u64 ((m / 2 : Nat) : Int), .int .u64 ((l : Nat) : Int), .int .u64 ((l / 2 : Nat) : Int), V12 x, .int .u64 ((m / 2 : Nat) : Int), (L7.v 2), V12 (npw x (m / 2)), V12 x, .int .u64 ((l / 2 : Nat) : Int), (L7.v 6), V12 (npw x (l / 2)), V12 ((npw x (m / 2)) * (npw x (l / 2))), V12 x, .int .u64 ((m / 2 : Nat) : Int), .int .u64 ((l / 2 : Nat) : Int), .int .u64 ((m / 2 + l / 2 : Nat) : Int), (L7.v 13), V12 (npw x (m / 2 + l / 2)), .bool true, .bool true, .bool true, .bool true, .bool true, .bool true, .bool true, .bool true, .bool true, V12 x, V12 0, .bool false, .bool false, undef, undef, .bool false, .bool false, .int .i64 0, .bool true, .bool true, V12 x, V12 x.inv, V12 (x * x.inv), V12 1, .bool true, .bool true, .bool true, .bool true]) (fun L => [((L0.b 0), C12 x), ((L0.b 1), C12 y), ((L0.b 2), C12 z), ((L3.b 5), C12 x.inv)]) hp8 ⟨
    oM, oM, oM, oP, oM, oM, oP, oM, oL 0 0 r12, oD build12n, oE (a := x) (b := 0) q12 (nay hx), oM, oS, oS, oP, oM, oM, oJ .i64 .i64 0 0 (h := fun w => (eqlI _ _ _ _ w).trans rfl),
    oM, oL 0 0 r12, oL 3 0 r12, oC K.stay hg (fp12Mul K x x.inv), oC K.stay hg (fp12One K), oE (a := (x * x.inv)) (b := 1) q12 (yes (F12.inv_mul hx)), oP, oP, oP,
    oA,
    trivial⟩ (fun L8 w9 hp9 => ?_)
  refine k11 _ _ ?_
  refine wp_ret ?_
  refine bodyPost_ret (v := .bool true) ?_ rfl ?_
  · exact res_t rfl (by kernel_rfl) _
  · exact ⟨rfl, hp9.bel⟩
/-- What Fp12Field answers. -/
theorem fp12Field_walk {G : World → Prop} (K : FpK G) (R : RefK) (f0a g0a f0b g0b f0c g0c f0d g0d f0e g0e f0f g0f f1a g1a f1b g1b f1c g1c f1d g1d f1e g1e f1f g1f f2a g2a f2b g2b f2c g2c f2d g2d f2e g2e f2f g2f : Nat → Int) (k j : Int) (rf0a : Rg f0a 6) (rg0a : Rg g0a 6) (rf0b : Rg f0b 6) (rg0b : Rg g0b 6) (rf0c : Rg f0c 6) (rg0c : Rg g0c 6) (rf0d : Rg f0d 6) (rg0d : Rg g0d 6) (rf0e : Rg f0e 6) (rg0e : Rg g0e 6) (rf0f : Rg f0f 6) (rg0f : Rg g0f 6) (rf1a : Rg f1a 6) (rg1a : Rg g1a 6) (rf1b : Rg f1b 6) (rg1b : Rg g1b 6) (rf1c : Rg f1c 6) (rg1c : Rg g1c 6) (rf1d : Rg f1d 6) (rg1d : Rg g1d 6) (rf1e : Rg f1e 6) (rg1e : Rg g1e 6) (rf1f : Rg f1f 6) (rg1f : Rg g1f 6) (rf2a : Rg f2a 6) (rg2a : Rg g2a 6) (rf2b : Rg f2b 6) (rg2b : Rg g2b 6) (rf2c : Rg f2c 6) (rg2c : Rg g2c 6) (rf2d : Rg f2d 6) (rg2d : Rg g2d 6) (rf2e : Rg f2e 6) (rg2e : Rg g2e 6) (rf2f : Rg f2f 6) (rg2f : Rg g2f 6) (hk : 0 ≤ k ∧ k < 2 ^ 64) (hj : 0 ≤ j ∧ j < 2 ^ 64) (w : World) (hg : G w) :
    Calls Tryd.prog 4 #[QV12 f0a g0a f0b g0b f0c g0c f0d g0d f0e g0e f0f g0f, QV12 f1a g1a f1b g1b f1c g1c f1d g1d f1e g1e f1f g1f, QV12 f2a g2a f2b g2b f2c g2c f2d g2d f2e g2e f2f g2f, .int .u64 k, .int .u64 j] w (Ret (.bool true) w) := by
  have hB := fun w hg => begun7 K w hg
  obtain ⟨m, rfl⟩ : ∃ m : Nat, k = (m : Int) := ⟨k.toNat, (Int.toNat_of_nonneg hk.1).symm⟩
  obtain ⟨l, rfl⟩ : ∃ l : Nat, j = (l : Int) := ⟨j.toNat, (Int.toNat_of_nonneg hj.1).symm⟩
  have hm : m < 2 ^ 64 := by omega
  have hl : l < 2 ^ 64 := by omega
  rcases six_or K R f0a g0a f0b g0b f0c g0c f0d g0d f0e g0e f0f g0f rf0a rg0a rf0b rg0b rf0c rg0c rf0d rg0d rf0e rg0e rf0f rg0f with ⟨⟨x, hx⟩, h1, -⟩ | ⟨h1, -⟩
  · rcases six_or K R f1a g1a f1b g1b f1c g1c f1d g1d f1e g1e f1f g1f rf1a rg1a rf1b rg1b rf1c rg1c rf1d rg1d rf1e rg1e rf1f rg1f with ⟨⟨y, hy⟩, h2, -⟩ | ⟨h2, -⟩
    · rcases six_or K R f2a g2a f2b g2b f2c g2c f2d g2d f2e g2e f2f g2f rf2a rg2a rf2b rg2b rf2c rg2c rf2d rg2d rf2e rg2e rf2f rg2f with ⟨⟨z, hz⟩, h3, -⟩ | ⟨h3, -⟩
      · rw [hx, hy, hz]
        by_cases h0 : x = 0
        · exact twef3 K R x y z m l w hg hB hm hl h0
        · exact twef4 K R x y z m l w hg hB hm hl h0
      · exact twef2 K R f0a g0a f0b g0b f0c g0c f0d g0d f0e g0e f0f g0f f1a g1a f1b g1b f1c g1c f1d g1d f1e g1e f1f g1f f2a g2a f2b g2b f2c g2c f2d g2d f2e g2e f2f g2f m l w hg hB h1 h2 h3
    · exact twef1 K R f0a g0a f0b g0b f0c g0c f0d g0d f0e g0e f0f g0f f1a g1a f1b g1b f1c g1c f1d g1d f1e g1e f1f g1f f2a g2a f2b g2b f2c g2c f2d g2d f2e g2e f2f g2f m l w hg hB h1 h2
  · exact twef0 K R f0a g0a f0b g0b f0c g0c f0d g0d f0e g0e f0f g0f f1a g1a f1b g1b f1c g1c f1d g1d f1e g1e f1f g1f f2a g2a f2b g2b f2c g2c f2d g2d f2e g2e f2f g2f m l w hg hB h1
end Go.Proofs.YtbncpnkjeadolaaDoor.fpn
