/- Fp2FieldWalk. -/
import Derived.Test.YtgoghcmnnhglhaaDoorGI
/- Fp2Field walked. -/
namespace Go.Proofs.YtgoghcmnnhglhaaDoor.fpn
open Go.RowKit Pl
set_option linter.unusedVariables false
set_option linter.unusedSimpArgs false
set_option maxRecDepth 4000

set_option maxHeartbeats 4000000 in
theorem field0 {G : World → Prop} (K : FpK G) (R : RefK) (f g f2 g2 f3 g3 : Nat → Int) (w : World) (hg : G w) (hB : ∀ w, G w → Calls Tryd.prog 7 #[] w (Ret (.bool true) w)) (hm : ∀ w, G w → Calls Tryd.prog 8 #[QV2 f g] w (Ret (.bool false) w)) : Calls Tryd.prog 5 #[QV2 f g, QV2 f2 g2, QV2 f3 g3] w (Ret (.bool true) w) := by
  have hp0 := Heap.start w
  go_enter Tryd.func5, Tryd.ntmps5
  refine wp_seq_k (fun K1 k1 => ?_)
  refine goes (ks := [.alloc (QC2 f g), .alloc (QC2 f2 g2), .alloc (QC2 f3 g3), .det (.bool false)]) (T := [0, 0, 0, 0]) (nt := 111) (nh := 0) (H := []) (A := fun L => [QV2 f g, QV2 f2 g2, QV2 f3 g3, .pointer (some ⟨L.b 0, 0, none⟩), .pointer (some ⟨L.b 1, 0, none⟩), .pointer (some ⟨L.b 2, 0, none⟩), .bool false, undef, undef, undef, undef, undef, undef, undef, undef, undef, undef, undef, undef, undef, undef, undef, undef, undef, undef, undef, undef, undef, undef, undef, undef, undef, undef, undef, undef, undef, undef, undef, undef, undef, undef, undef, undef, undef, undef, undef, undef, undef, undef, undef, undef, undef, undef, undef, undef, undef, undef, undef, undef, undef, undef, undef, undef, undef, undef, undef, undef, undef, undef, undef, undef, undef, undef, undef, undef, undef, undef, undef, undef, undef, undef, undef, undef, undef, undef, undef, undef, undef, undef, undef, undef, undef, undef, undef, undef, undef, undef, undef, undef, undef, undef, undef, undef, undef, undef, undef, undef, undef, undef, undef, undef]) (H' := fun L => [(L.b 0, QC2 f g), (L.b 1, QC2 f2 g2), (L.b 2, QC2 f3 g3)]) (by kernel_rfl) rfl rfl rfl (fun L => by kernel_rfl) (fun L => by kernel_rfl) hp0 ⟨
    ob_box (v := QV2 f g) (fun _ => rfl) rfl rfl (fun _ => by kernel_rfl) rfl,
    ob_box (v := QV2 f2 g2) (fun _ => rfl) rfl rfl (fun _ => by kernel_rfl) rfl,
    ob_box (v := QV2 f3 g3) (fun _ => rfl) rfl rfl (fun _ => by kernel_rfl) rfl,
    ob_assign (fun _ => rfl) rfl rfl (fun _ => by kernel_rfl),
    trivial⟩ (fun L0 w1 hp1 => ?_)
  refine k1 _ _ ?_
  refine wp_seq_k (fun K2 k2 => ?_)
  refine wp_seq_k (fun K3 k3 => ?_)
  refine goes (ks := [.det (.bool true), .det (.bool false)]) (T := [0, 1]) (nt := 111) (nh := 3) (H := [((L0.b 0), QC2 f g), ((L0.b 1), QC2 f2 g2), ((L0.b 2), QC2 f3 g3)]) (A := fun L => [QV2 f g, QV2 f2 g2, QV2 f3 g3, .pointer (some ⟨(L0.b 0), 0, none⟩), .pointer (some ⟨(L0.b 1), 0, none⟩), .pointer (some ⟨(L0.b 2), 0, none⟩), .bool false, undef, undef, undef, undef, undef, .bool true, .bool false, undef, undef, undef, undef, undef, undef, undef, undef, undef, undef, undef, undef, undef, undef, undef, undef, undef, undef, undef, undef, undef, undef, undef, undef, undef, undef, undef, undef, undef, undef, undef, undef, undef, undef, undef, undef, undef, undef, undef, undef, undef, undef, undef, undef, undef, undef, undef, undef, undef, undef, undef, undef, undef, undef, undef, undef, undef, undef, undef, undef, undef, undef, undef, undef, undef, undef, undef, undef, undef, undef, undef, undef, undef, undef, undef, undef, undef, undef, undef, undef, undef, undef, undef, undef, undef, undef, undef, undef, undef, undef, undef, undef, undef, undef, undef, undef, undef]) (H' := fun L => [((L0.b 0), QC2 f g), ((L0.b 1), QC2 f2 g2), ((L0.b 2), QC2 f3 g3)]) (by kernel_rfl) rfl rfl rfl (fun L => by kernel_rfl) (fun L => by kernel_rfl) hp1 ⟨
    ob_call (vs := #[]) (by kernel_rfl) (by kernel_rfl) (fun _ => rfl) rfl rfl (fun _ => by kernel_rfl) (fun w hb _ => hB w (K.stay hg hb)),
    ob_not (b := true) (fun _ => rfl) rfl rfl (fun _ => by kernel_rfl),
    trivial⟩ (fun L1 w2 hp2 => ?_)
  refine k3 _ _ ?_
  refine wp_cond_false (by kernel_rfl) ?_
  refine skips ?_
  refine k2 _ _ ?_
  refine wp_seq_k (fun K4 k4 => ?_)
  refine wp_seq_k (fun K5 k5 => ?_)
  refine goes (ks := [.det (QV2 f g), .det (.bool false), .det (.bool true), .det (.bool true), .det undef, .det undef, .det undef, .det (.bool true), .det (.bool true), .det undef, .det undef, .det undef, .det (.bool true)]) (T := [0, 1, 3, 7, 15, 31, 63, 127, 255, 511, 1023, 2047, 4095]) (nt := 111) (nh := 3) (H := [((L0.b 0), QC2 f g), ((L0.b 1), QC2 f2 g2), ((L0.b 2), QC2 f3 g3)]) (A := fun L => [QV2 f g, QV2 f2 g2, QV2 f3 g3, .pointer (some ⟨(L0.b 0), 0, none⟩), .pointer (some ⟨(L0.b 1), 0, none⟩), .pointer (some ⟨(L0.b 2), 0, none⟩), .bool false, undef, undef, undef, undef, undef, .bool true, .bool false, QV2 f g, .bool false, .bool true, .bool true, undef, undef, undef, .bool true, .bool true, undef, undef, undef, .bool true, undef, undef, undef, undef, undef, undef, undef, undef, undef, undef, undef, undef, undef, undef, undef, undef, undef, undef, undef, undef, undef, undef, undef, undef, undef, undef, undef, undef, undef, undef, undef, undef, undef, undef, undef, undef, undef, undef, undef, undef, undef, undef, undef, undef, undef, undef, undef, undef, undef, undef, undef, undef, undef, undef, undef, undef, undef, undef, undef, undef, undef, undef, undef, undef, undef, undef, undef, undef, undef, undef, undef, undef, undef, undef, undef, undef, undef, undef, undef, undef, undef, undef, undef, undef]) (H' := fun L => [((L0.b 0), QC2 f g), ((L0.b 1), QC2 f2 g2), ((L0.b 2), QC2 f3 g3)]) (by kernel_rfl) rfl rfl rfl (fun L => by kernel_rfl) (fun L => by kernel_rfl) hp2 ⟨
    ob_load (b := (L0.b 0)) (off := 0) (cs := QC2 f g) (by kernel_rfl) (fun _ => rfl) rfl rfl (fun _ => by kernel_rfl) (fun _ _ hs => (seen_at (k := 0) hs rfl).cells) Tryd.underlying26 rfl (sizeQC2 _ _),
    ob_call (vs := #[QV2 f g]) (by kernel_rfl) (by kernel_rfl) (fun _ => rfl) rfl rfl (fun _ => by kernel_rfl) (fun w hb _ => hm w (K.stay hg hb)),
    ob_not (b := false) (fun _ => rfl) rfl rfl (fun _ => by kernel_rfl),
    ob_move (fun _ => rfl) rfl rfl (fun _ => by kernel_rfl),
    ob_skip (fun _ => by kernel_rfl) rfl,
    ob_skip (fun _ => by kernel_rfl) rfl,
    ob_skip (fun _ => by kernel_rfl) rfl,
    ob_pickT (fun _ => rfl) rfl rfl (fun _ => by kernel_rfl) (fun _ => by kernel_rfl),
    ob_move (fun _ => rfl) rfl rfl (fun _ => by kernel_rfl),
    ob_skip (fun _ => by kernel_rfl) rfl,
    ob_skip (fun _ => by kernel_rfl) rfl,
    ob_skip (fun _ => by kernel_rfl) rfl,
    ob_pickT (fun _ => rfl) rfl rfl (fun _ => by kernel_rfl) (fun _ => by kernel_rfl),
    trivial⟩ (fun L2 w3 hp3 => ?_)
  refine k5 _ _ ?_
  refine wp_cond_true (by kernel_rfl) ?_
  refine wp_seq_k (fun K6 k6 => ?_)
  refine goes (ks := [.det (.bool true)]) (T := [0]) (nt := 111) (nh := 3) (H := [((L0.b 0), QC2 f g), ((L0.b 1), QC2 f2 g2), ((L0.b 2), QC2 f3 g3)]) (A := fun L => [QV2 f g, QV2 f2 g2, QV2 f3 g3, .pointer (some ⟨(L0.b 0), 0, none⟩), .pointer (some ⟨(L0.b 1), 0, none⟩), .pointer (some ⟨(L0.b 2), 0, none⟩), .bool true, undef, undef, undef, undef, undef, .bool true, .bool false, QV2 f g, .bool false, .bool true, .bool true, undef, undef, undef, .bool true, .bool true, undef, undef, undef, .bool true, undef, undef, undef, undef, undef, undef, undef, undef, undef, undef, undef, undef, undef, undef, undef, undef, undef, undef, undef, undef, undef, undef, undef, undef, undef, undef, undef, undef, undef, undef, undef, undef, undef, undef, undef, undef, undef, undef, undef, undef, undef, undef, undef, undef, undef, undef, undef, undef, undef, undef, undef, undef, undef, undef, undef, undef, undef, undef, undef, undef, undef, undef, undef, undef, undef, undef, undef, undef, undef, undef, undef, undef, undef, undef, undef, undef, undef, undef, undef, undef, undef, undef, undef, undef]) (H' := fun L => [((L0.b 0), QC2 f g), ((L0.b 1), QC2 f2 g2), ((L0.b 2), QC2 f3 g3)]) (by kernel_rfl) rfl rfl rfl (fun L => by kernel_rfl) (fun L => by kernel_rfl) hp3 ⟨
    ob_assign (fun _ => rfl) rfl rfl (fun _ => by kernel_rfl),
    trivial⟩ (fun L3 w4 hp4 => ?_)
  refine k6 _ _ ?_
  refine wp_ret ?_
  exact bodyPost_ret (v := .bool true) (res_t rfl (by kernel_rfl) _) rfl ⟨rfl, hp4.bel⟩
set_option maxHeartbeats 4000000 in
theorem field1 {G : World → Prop} (K : FpK G) (R : RefK) (f g f2 g2 f3 g3 : Nat → Int) (w : World) (hg : G w) (hB : ∀ w, G w → Calls Tryd.prog 7 #[] w (Ret (.bool true) w)) (hm : ∀ w, G w → Calls Tryd.prog 8 #[QV2 f g] w (Ret (.bool true) w)) (hm2 : ∀ w, G w → Calls Tryd.prog 8 #[QV2 f2 g2] w (Ret (.bool false) w)) : Calls Tryd.prog 5 #[QV2 f g, QV2 f2 g2, QV2 f3 g3] w (Ret (.bool true) w) := by
  have hp0 := Heap.start w
  go_enter Tryd.func5, Tryd.ntmps5
  refine wp_seq_k (fun K1 k1 => ?_)
  refine goes (ks := [.alloc (QC2 f g), .alloc (QC2 f2 g2), .alloc (QC2 f3 g3), .det (.bool false)]) (T := [0, 0, 0, 0]) (nt := 111) (nh := 0) (H := []) (A := fun L => [QV2 f g, QV2 f2 g2, QV2 f3 g3, .pointer (some ⟨L.b 0, 0, none⟩), .pointer (some ⟨L.b 1, 0, none⟩), .pointer (some ⟨L.b 2, 0, none⟩), .bool false, undef, undef, undef, undef, undef, undef, undef, undef, undef, undef, undef, undef, undef, undef, undef, undef, undef, undef, undef, undef, undef, undef, undef, undef, undef, undef, undef, undef, undef, undef, undef, undef, undef, undef, undef, undef, undef, undef, undef, undef, undef, undef, undef, undef, undef, undef, undef, undef, undef, undef, undef, undef, undef, undef, undef, undef, undef, undef, undef, undef, undef, undef, undef, undef, undef, undef, undef, undef, undef, undef, undef, undef, undef, undef, undef, undef, undef, undef, undef, undef, undef, undef, undef, undef, undef, undef, undef, undef, undef, undef, undef, undef, undef, undef, undef, undef, undef, undef, undef, undef, undef, undef, undef, undef]) (H' := fun L => [(L.b 0, QC2 f g), (L.b 1, QC2 f2 g2), (L.b 2, QC2 f3 g3)]) (by kernel_rfl) rfl rfl rfl (fun L => by kernel_rfl) (fun L => by kernel_rfl) hp0 ⟨
    ob_box (v := QV2 f g) (fun _ => rfl) rfl rfl (fun _ => by kernel_rfl) rfl,
    ob_box (v := QV2 f2 g2) (fun _ => rfl) rfl rfl (fun _ => by kernel_rfl) rfl,
    ob_box (v := QV2 f3 g3) (fun _ => rfl) rfl rfl (fun _ => by kernel_rfl) rfl,
    ob_assign (fun _ => rfl) rfl rfl (fun _ => by kernel_rfl),
    trivial⟩ (fun L0 w1 hp1 => ?_)
  refine k1 _ _ ?_
  refine wp_seq_k (fun K2 k2 => ?_)
  refine wp_seq_k (fun K3 k3 => ?_)
  refine goes (ks := [.det (.bool true), .det (.bool false)]) (T := [0, 1]) (nt := 111) (nh := 3) (H := [((L0.b 0), QC2 f g), ((L0.b 1), QC2 f2 g2), ((L0.b 2), QC2 f3 g3)]) (A := fun L => [QV2 f g, QV2 f2 g2, QV2 f3 g3, .pointer (some ⟨(L0.b 0), 0, none⟩), .pointer (some ⟨(L0.b 1), 0, none⟩), .pointer (some ⟨(L0.b 2), 0, none⟩), .bool false, undef, undef, undef, undef, undef, .bool true, .bool false, undef, undef, undef, undef, undef, undef, undef, undef, undef, undef, undef, undef, undef, undef, undef, undef, undef, undef, undef, undef, undef, undef, undef, undef, undef, undef, undef, undef, undef, undef, undef, undef, undef, undef, undef, undef, undef, undef, undef, undef, undef, undef, undef, undef, undef, undef, undef, undef, undef, undef, undef, undef, undef, undef, undef, undef, undef, undef, undef, undef, undef, undef, undef, undef, undef, undef, undef, undef, undef, undef, undef, undef, undef, undef, undef, undef, undef, undef, undef, undef, undef, undef, undef, undef, undef, undef, undef, undef, undef, undef, undef, undef, undef, undef, undef, undef, undef]) (H' := fun L => [((L0.b 0), QC2 f g), ((L0.b 1), QC2 f2 g2), ((L0.b 2), QC2 f3 g3)]) (by kernel_rfl) rfl rfl rfl (fun L => by kernel_rfl) (fun L => by kernel_rfl) hp1 ⟨
    ob_call (vs := #[]) (by kernel_rfl) (by kernel_rfl) (fun _ => rfl) rfl rfl (fun _ => by kernel_rfl) (fun w hb _ => hB w (K.stay hg hb)),
    ob_not (b := true) (fun _ => rfl) rfl rfl (fun _ => by kernel_rfl),
    trivial⟩ (fun L1 w2 hp2 => ?_)
  refine k3 _ _ ?_
  refine wp_cond_false (by kernel_rfl) ?_
  refine skips ?_
  refine k2 _ _ ?_
  refine wp_seq_k (fun K4 k4 => ?_)
  refine wp_seq_k (fun K5 k5 => ?_)
  refine goes (ks := [.det (QV2 f g), .det (.bool true), .det (.bool false), .det (.bool false), .det (QV2 f2 g2), .det (.bool false), .det (.bool true), .det (.bool true), .det (.bool true), .det undef, .det undef, .det undef, .det (.bool true)]) (T := [0, 1, 3, 7, 15, 31, 63, 127, 255, 511, 1023, 2047, 4095]) (nt := 111) (nh := 3) (H := [((L0.b 0), QC2 f g), ((L0.b 1), QC2 f2 g2), ((L0.b 2), QC2 f3 g3)]) (A := fun L => [QV2 f g, QV2 f2 g2, QV2 f3 g3, .pointer (some ⟨(L0.b 0), 0, none⟩), .pointer (some ⟨(L0.b 1), 0, none⟩), .pointer (some ⟨(L0.b 2), 0, none⟩), .bool false, undef, undef, undef, undef, undef, .bool true, .bool false, QV2 f g, .bool true, .bool false, .bool false, QV2 f2 g2, .bool false, .bool true, .bool true, .bool true, undef, undef, undef, .bool true, undef, undef, undef, undef, undef, undef, undef, undef, undef, undef, undef, undef, undef, undef, undef, undef, undef, undef, undef, undef, undef, undef, undef, undef, undef, undef, undef, undef, undef, undef, undef, undef, undef, undef, undef, undef, undef, undef, undef, undef, undef, undef, undef, undef, undef, undef, undef, undef, undef, undef, undef, undef, undef, undef, undef, undef, undef, undef, undef, undef, undef, undef, undef, undef, undef, undef, undef, undef, undef, undef, undef, undef, undef, undef, undef, undef, undef, undef, undef, undef, undef, undef, undef, undef]) (H' := fun L => [((L0.b 0), QC2 f g), ((L0.b 1), QC2 f2 g2), ((L0.b 2), QC2 f3 g3)]) (by kernel_rfl) rfl rfl rfl (fun L => by kernel_rfl) (fun L => by kernel_rfl) hp2 ⟨
    ob_load (b := (L0.b 0)) (off := 0) (cs := QC2 f g) (by kernel_rfl) (fun _ => rfl) rfl rfl (fun _ => by kernel_rfl) (fun _ _ hs => (seen_at (k := 0) hs rfl).cells) Tryd.underlying26 rfl (sizeQC2 _ _),
    ob_call (vs := #[QV2 f g]) (by kernel_rfl) (by kernel_rfl) (fun _ => rfl) rfl rfl (fun _ => by kernel_rfl) (fun w hb _ => hm w (K.stay hg hb)),
    ob_not (b := true) (fun _ => rfl) rfl rfl (fun _ => by kernel_rfl),
    ob_move (fun _ => rfl) rfl rfl (fun _ => by kernel_rfl),
    ob_load (b := (L0.b 1)) (off := 0) (cs := QC2 f2 g2) (by kernel_rfl) (fun _ => by kernel_rfl) rfl rfl (fun _ => by kernel_rfl) (fun _ _ hs => (seen_at (k := 1) hs rfl).cells) Tryd.underlying26 rfl (sizeQC2 _ _),
    ob_call (vs := #[QV2 f2 g2]) (by kernel_rfl) (by kernel_rfl) (fun _ => by kernel_rfl) rfl rfl (fun _ => by kernel_rfl) (fun w hb _ => hm2 w (K.stay hg hb)),
    ob_not (b := false) (fun _ => by kernel_rfl) rfl rfl (fun _ => by kernel_rfl),
    ob_pickF (fun _ => rfl) rfl rfl (fun _ => by kernel_rfl) (fun _ => by kernel_rfl),
    ob_move (fun _ => rfl) rfl rfl (fun _ => by kernel_rfl),
    ob_skip (fun _ => by kernel_rfl) rfl,
    ob_skip (fun _ => by kernel_rfl) rfl,
    ob_skip (fun _ => by kernel_rfl) rfl,
    ob_pickT (fun _ => rfl) rfl rfl (fun _ => by kernel_rfl) (fun _ => by kernel_rfl),
    trivial⟩ (fun L2 w3 hp3 => ?_)
  refine k5 _ _ ?_
  refine wp_cond_true (by kernel_rfl) ?_
  refine wp_seq_k (fun K6 k6 => ?_)
  refine goes (ks := [.det (.bool true)]) (T := [0]) (nt := 111) (nh := 3) (H := [((L0.b 0), QC2 f g), ((L0.b 1), QC2 f2 g2), ((L0.b 2), QC2 f3 g3)]) (A := fun L => [QV2 f g, QV2 f2 g2, QV2 f3 g3, .pointer (some ⟨(L0.b 0), 0, none⟩), .pointer (some ⟨(L0.b 1), 0, none⟩), .pointer (some ⟨(L0.b 2), 0, none⟩), .bool true, undef, undef, undef, undef, undef, .bool true, .bool false, QV2 f g, .bool true, .bool false, .bool false, QV2 f2 g2, .bool false, .bool true, .bool true, .bool true, undef, undef, undef, .bool true, undef, undef, undef, undef, undef, undef, undef, undef, undef, undef, undef, undef, undef, undef, undef, undef, undef, undef, undef, undef, undef, undef, undef, undef, undef, undef, undef, undef, undef, undef, undef, undef, undef, undef, undef, undef, undef, undef, undef, undef, undef, undef, undef, undef, undef, undef, undef, undef, undef, undef, undef, undef, undef, undef, undef, undef, undef, undef, undef, undef, undef, undef, undef, undef, undef, undef, undef, undef, undef, undef, undef, undef, undef, undef, undef, undef, undef, undef, undef, undef, undef, undef, undef, undef]) (H' := fun L => [((L0.b 0), QC2 f g), ((L0.b 1), QC2 f2 g2), ((L0.b 2), QC2 f3 g3)]) (by kernel_rfl) rfl rfl rfl (fun L => by kernel_rfl) (fun L => by kernel_rfl) hp3 ⟨
    ob_assign (fun _ => rfl) rfl rfl (fun _ => by kernel_rfl),
    trivial⟩ (fun L3 w4 hp4 => ?_)
  refine k6 _ _ ?_
  refine wp_ret ?_
  exact bodyPost_ret (v := .bool true) (res_t rfl (by kernel_rfl) _) rfl ⟨rfl, hp4.bel⟩
set_option maxHeartbeats 4000000 in
theorem field2 {G : World → Prop} (K : FpK G) (R : RefK) (f g f2 g2 f3 g3 : Nat → Int) (w : World) (hg : G w) (hB : ∀ w, G w → Calls Tryd.prog 7 #[] w (Ret (.bool true) w)) (hm : ∀ w, G w → Calls Tryd.prog 8 #[QV2 f g] w (Ret (.bool true) w)) (hm2 : ∀ w, G w → Calls Tryd.prog 8 #[QV2 f2 g2] w (Ret (.bool true) w)) (hm3 : ∀ w, G w → Calls Tryd.prog 8 #[QV2 f3 g3] w (Ret (.bool false) w)) : Calls Tryd.prog 5 #[QV2 f g, QV2 f2 g2, QV2 f3 g3] w (Ret (.bool true) w) := by
  have hp0 := Heap.start w
  go_enter Tryd.func5, Tryd.ntmps5
  refine wp_seq_k (fun K1 k1 => ?_)
  refine goes (ks := [.alloc (QC2 f g), .alloc (QC2 f2 g2), .alloc (QC2 f3 g3), .det (.bool false)]) (T := [0, 0, 0, 0]) (nt := 111) (nh := 0) (H := []) (A := fun L => [QV2 f g, QV2 f2 g2, QV2 f3 g3, .pointer (some ⟨L.b 0, 0, none⟩), .pointer (some ⟨L.b 1, 0, none⟩), .pointer (some ⟨L.b 2, 0, none⟩), .bool false, undef, undef, undef, undef, undef, undef, undef, undef, undef, undef, undef, undef, undef, undef, undef, undef, undef, undef, undef, undef, undef, undef, undef, undef, undef, undef, undef, undef, undef, undef, undef, undef, undef, undef, undef, undef, undef, undef, undef, undef, undef, undef, undef, undef, undef, undef, undef, undef, undef, undef, undef, undef, undef, undef, undef, undef, undef, undef, undef, undef, undef, undef, undef, undef, undef, undef, undef, undef, undef, undef, undef, undef, undef, undef, undef, undef, undef, undef, undef, undef, undef, undef, undef, undef, undef, undef, undef, undef, undef, undef, undef, undef, undef, undef, undef, undef, undef, undef, undef, undef, undef, undef, undef, undef]) (H' := fun L => [(L.b 0, QC2 f g), (L.b 1, QC2 f2 g2), (L.b 2, QC2 f3 g3)]) (by kernel_rfl) rfl rfl rfl (fun L => by kernel_rfl) (fun L => by kernel_rfl) hp0 ⟨
    ob_box (v := QV2 f g) (fun _ => rfl) rfl rfl (fun _ => by kernel_rfl) rfl,
    ob_box (v := QV2 f2 g2) (fun _ => rfl) rfl rfl (fun _ => by kernel_rfl) rfl,
    ob_box (v := QV2 f3 g3) (fun _ => rfl) rfl rfl (fun _ => by kernel_rfl) rfl,
    ob_assign (fun _ => rfl) rfl rfl (fun _ => by kernel_rfl),
    trivial⟩ (fun L0 w1 hp1 => ?_)
  refine k1 _ _ ?_
  refine wp_seq_k (fun K2 k2 => ?_)
  refine wp_seq_k (fun K3 k3 => ?_)
  refine goes (ks := [.det (.bool true), .det (.bool false)]) (T := [0, 1]) (nt := 111) (nh := 3) (H := [((L0.b 0), QC2 f g), ((L0.b 1), QC2 f2 g2), ((L0.b 2), QC2 f3 g3)]) (A := fun L => [QV2 f g, QV2 f2 g2, QV2 f3 g3, .pointer (some ⟨(L0.b 0), 0, none⟩), .pointer (some ⟨(L0.b 1), 0, none⟩), .pointer (some ⟨(L0.b 2), 0, none⟩), .bool false, undef, undef, undef, undef, undef, .bool true, .bool false, undef, undef, undef, undef, undef, undef, undef, undef, undef, undef, undef, undef, undef, undef, undef, undef, undef, undef, undef, undef, undef, undef, undef, undef, undef, undef, undef, undef, undef, undef, undef, undef, undef, undef, undef, undef, undef, undef, undef, undef, undef, undef, undef, undef, undef, undef, undef, undef, undef, undef, undef, undef, undef, undef, undef, undef, undef, undef, undef, undef, undef, undef, undef, undef, undef, undef, undef, undef, undef, undef, undef, undef, undef, undef, undef, undef, undef, undef, undef, undef, undef, undef, undef, undef, undef, undef, undef, undef, undef, undef, undef, undef, undef, undef, undef, undef, undef]) (H' := fun L => [((L0.b 0), QC2 f g), ((L0.b 1), QC2 f2 g2), ((L0.b 2), QC2 f3 g3)]) (by kernel_rfl) rfl rfl rfl (fun L => by kernel_rfl) (fun L => by kernel_rfl) hp1 ⟨
    ob_call (vs := #[]) (by kernel_rfl) (by kernel_rfl) (fun _ => rfl) rfl rfl (fun _ => by kernel_rfl) (fun w hb _ => hB w (K.stay hg hb)),
    ob_not (b := true) (fun _ => rfl) rfl rfl (fun _ => by kernel_rfl),
    trivial⟩ (fun L1 w2 hp2 => ?_)
  refine k3 _ _ ?_
  refine wp_cond_false (by kernel_rfl) ?_
  refine skips ?_
  refine k2 _ _ ?_
  refine wp_seq_k (fun K4 k4 => ?_)
  refine wp_seq_k (fun K5 k5 => ?_)
  refine goes (ks := [.det (QV2 f g), .det (.bool true), .det (.bool false), .det (.bool false), .det (QV2 f2 g2), .det (.bool true), .det (.bool false), .det (.bool false), .det (.bool false), .det (QV2 f3 g3), .det (.bool false), .det (.bool true), .det (.bool true)]) (T := [0, 1, 3, 7, 15, 31, 63, 127, 255, 511, 1023, 2047, 4095]) (nt := 111) (nh := 3) (H := [((L0.b 0), QC2 f g), ((L0.b 1), QC2 f2 g2), ((L0.b 2), QC2 f3 g3)]) (A := fun L => [QV2 f g, QV2 f2 g2, QV2 f3 g3, .pointer (some ⟨(L0.b 0), 0, none⟩), .pointer (some ⟨(L0.b 1), 0, none⟩), .pointer (some ⟨(L0.b 2), 0, none⟩), .bool false, undef, undef, undef, undef, undef, .bool true, .bool false, QV2 f g, .bool true, .bool false, .bool false, QV2 f2 g2, .bool true, .bool false, .bool false, .bool false, QV2 f3 g3, .bool false, .bool true, .bool true, undef, undef, undef, undef, undef, undef, undef, undef, undef, undef, undef, undef, undef, undef, undef, undef, undef, undef, undef, undef, undef, undef, undef, undef, undef, undef, undef, undef, undef, undef, undef, undef, undef, undef, undef, undef, undef, undef, undef, undef, undef, undef, undef, undef, undef, undef, undef, undef, undef, undef, undef, undef, undef, undef, undef, undef, undef, undef, undef, undef, undef, undef, undef, undef, undef, undef, undef, undef, undef, undef, undef, undef, undef, undef, undef, undef, undef, undef, undef, undef, undef, undef, undef, undef]) (H' := fun L => [((L0.b 0), QC2 f g), ((L0.b 1), QC2 f2 g2), ((L0.b 2), QC2 f3 g3)]) (by kernel_rfl) rfl rfl rfl (fun L => by kernel_rfl) (fun L => by kernel_rfl) hp2 ⟨
    ob_load (b := (L0.b 0)) (off := 0) (cs := QC2 f g) (by kernel_rfl) (fun _ => rfl) rfl rfl (fun _ => by kernel_rfl) (fun _ _ hs => (seen_at (k := 0) hs rfl).cells) Tryd.underlying26 rfl (sizeQC2 _ _),
    ob_call (vs := #[QV2 f g]) (by kernel_rfl) (by kernel_rfl) (fun _ => rfl) rfl rfl (fun _ => by kernel_rfl) (fun w hb _ => hm w (K.stay hg hb)),
    ob_not (b := true) (fun _ => rfl) rfl rfl (fun _ => by kernel_rfl),
    ob_move (fun _ => rfl) rfl rfl (fun _ => by kernel_rfl),
    ob_load (b := (L0.b 1)) (off := 0) (cs := QC2 f2 g2) (by kernel_rfl) (fun _ => by kernel_rfl) rfl rfl (fun _ => by kernel_rfl) (fun _ _ hs => (seen_at (k := 1) hs rfl).cells) Tryd.underlying26 rfl (sizeQC2 _ _),
    ob_call (vs := #[QV2 f2 g2]) (by kernel_rfl) (by kernel_rfl) (fun _ => by kernel_rfl) rfl rfl (fun _ => by kernel_rfl) (fun w hb _ => hm2 w (K.stay hg hb)),
    ob_not (b := true) (fun _ => by kernel_rfl) rfl rfl (fun _ => by kernel_rfl),
    ob_pickF (fun _ => rfl) rfl rfl (fun _ => by kernel_rfl) (fun _ => by kernel_rfl),
    ob_move (fun _ => rfl) rfl rfl (fun _ => by kernel_rfl),
    ob_load (b := (L0.b 2)) (off := 0) (cs := QC2 f3 g3) (by kernel_rfl) (fun _ => by kernel_rfl) rfl rfl (fun _ => by kernel_rfl) (fun _ _ hs => (seen_at (k := 2) hs rfl).cells) Tryd.underlying26 rfl (sizeQC2 _ _),
    ob_call (vs := #[QV2 f3 g3]) (by kernel_rfl) (by kernel_rfl) (fun _ => by kernel_rfl) rfl rfl (fun _ => by kernel_rfl) (fun w hb _ => hm3 w (K.stay hg hb)),
    ob_not (b := false) (fun _ => by kernel_rfl) rfl rfl (fun _ => by kernel_rfl),
    ob_pickF (fun _ => rfl) rfl rfl (fun _ => by kernel_rfl) (fun _ => by kernel_rfl),
    trivial⟩ (fun L2 w3 hp3 => ?_)
  refine k5 _ _ ?_
  refine wp_cond_true (by kernel_rfl) ?_
  refine wp_seq_k (fun K6 k6 => ?_)
  refine goes (ks := [.det (.bool true)]) (T := [0]) (nt := 111) (nh := 3) (H := [((L0.b 0), QC2 f g), ((L0.b 1), QC2 f2 g2), ((L0.b 2), QC2 f3 g3)]) (A := fun L => [QV2 f g, QV2 f2 g2, QV2 f3 g3, .pointer (some ⟨(L0.b 0), 0, none⟩), .pointer (some ⟨(L0.b 1), 0, none⟩), .pointer (some ⟨(L0.b 2), 0, none⟩), .bool true, undef, undef, undef, undef, undef, .bool true, .bool false, QV2 f g, .bool true, .bool false, .bool false, QV2 f2 g2, .bool true, .bool false, .bool false, .bool false, QV2 f3 g3, .bool false, .bool true, .bool true, undef, undef, undef, undef, undef, undef, undef, undef, undef, undef, undef, undef, undef, undef, undef, undef, undef, undef, undef, undef, undef, undef, undef, undef, undef, undef, undef, undef, undef, undef, undef, undef, undef, undef, undef, undef, undef, undef, undef, undef, undef, undef, undef, undef, undef, undef, undef, undef, undef, undef, undef, undef, undef, undef, undef, undef, undef, undef, undef, undef, undef, undef, undef, undef, undef, undef, undef, undef, undef, undef, undef, undef, undef, undef, undef, undef, undef, undef, undef, undef, undef, undef, undef, undef]) (H' := fun L => [((L0.b 0), QC2 f g), ((L0.b 1), QC2 f2 g2), ((L0.b 2), QC2 f3 g3)]) (by kernel_rfl) rfl rfl rfl (fun L => by kernel_rfl) (fun L => by kernel_rfl) hp3 ⟨
    ob_assign (fun _ => rfl) rfl rfl (fun _ => by kernel_rfl),
    trivial⟩ (fun L3 w4 hp4 => ?_)
  refine k6 _ _ ?_
  refine wp_ret ?_
  exact bodyPost_ret (v := .bool true) (res_t rfl (by kernel_rfl) _) rfl ⟨rfl, hp4.bel⟩
/-- The limbs of P, new. -/
def isP (v : Value) (w : World) : Prop := ∃ k : Nat, v = .slice (some ⟨k, 0, none⟩) 6 6 ∧ At w (some ⟨k, 0, none⟩) 6 rL
theorem isP.stay {v : Value} {w x : World} (h : isP v w) (hb : Below w.heap.size w x) : isP v x := by
  obtain ⟨k, e, h⟩ := h
  exact ⟨k, e, AtK.below h hb⟩
theorem newP (w : World) : Calls Tryd.prog 28 #[] w fun e w' => ∃ v, e = .returned v ∧ isP v w' ∧ Below w.heap.size w w' :=
  Calls.mono (refP_new w) fun e w' ⟨k, h1, h2, h3⟩ => ⟨_, h1, ⟨k, rfl, h3⟩, h2⟩
theorem powP {G : World → Prop} (K : FpK G) (x : F2) (v : Value) (w : World) (hg : G w) (hv : isP v w) : Calls Tryd.prog 26 #[PV x, v] w (Ret (PV x.conj) w) := by
  obtain ⟨k, rfl, h⟩ := hv
  have := fp2Pow K x (some ⟨k, 0, none⟩) 6 6 rL RN w hg (by decide) h rL_rg (by rw [rL_val, RI_RN])
  rw [F2.frob] at this
  exact this
set_option maxHeartbeats 4000000 in
theorem field3 {G : World → Prop} (K : FpK G) (R : RefK) (x y z : F2) (w : World) (hg : G w) (hB : ∀ w, G w → Calls Tryd.prog 7 #[] w (Ret (.bool true) w)) (hx : x = 0) : Calls Tryd.prog 5 #[PV x, PV y, PV z] w (Ret (.bool true) w) := by
  have hp0 := Heap.start w
  go_enter Tryd.func5, Tryd.ntmps5
  refine wp_seq_k (fun K1 k1 => ?_)
  refine goes (ks := [.alloc (PC x), .alloc (PC y), .alloc (PC z), .det (.bool false)]) (T := [0, 0, 0, 0]) (nt := 111) (nh := 0) (H := []) (A := fun L => [PV x, PV y, PV z, .pointer (some ⟨L.b 0, 0, none⟩), .pointer (some ⟨L.b 1, 0, none⟩), .pointer (some ⟨L.b 2, 0, none⟩), .bool false, undef, undef, undef, undef, undef, undef, undef, undef, undef, undef, undef, undef, undef, undef, undef, undef, undef, undef, undef, undef, undef, undef, undef, undef, undef, undef, undef, undef, undef, undef, undef, undef, undef, undef, undef, undef, undef, undef, undef, undef, undef, undef, undef, undef, undef, undef, undef, undef, undef, undef, undef, undef, undef, undef, undef, undef, undef, undef, undef, undef, undef, undef, undef, undef, undef, undef, undef, undef, undef, undef, undef, undef, undef, undef, undef, undef, undef, undef, undef, undef, undef, undef, undef, undef, undef, undef, undef, undef, undef, undef, undef, undef, undef, undef, undef, undef, undef, undef, undef, undef, undef, undef, undef, undef]) (H' := fun L => [(L.b 0, PC x), (L.b 1, PC y), (L.b 2, PC z)]) (by kernel_rfl) rfl rfl rfl (fun L => by kernel_rfl) (fun L => by kernel_rfl) hp0 ⟨
    ob_box (v := PV x) (fun _ => rfl) rfl rfl (fun _ => by kernel_rfl) rfl,
    ob_box (v := PV y) (fun _ => rfl) rfl rfl (fun _ => by kernel_rfl) rfl,
    ob_box (v := PV z) (fun _ => rfl) rfl rfl (fun _ => by kernel_rfl) rfl,
    ob_assign (fun _ => rfl) rfl rfl (fun _ => by kernel_rfl),
    trivial⟩ (fun L0 w1 hp1 => ?_)
  refine k1 _ _ ?_
  refine wp_seq_k (fun K2 k2 => ?_)
  refine wp_seq_k (fun K3 k3 => ?_)
  refine goes (ks := [.det (.bool true), .det (.bool false)]) (T := [0, 1]) (nt := 111) (nh := 3) (H := [((L0.b 0), PC x), ((L0.b 1), PC y), ((L0.b 2), PC z)]) (A := fun L => [PV x, PV y, PV z, .pointer (some ⟨(L0.b 0), 0, none⟩), .pointer (some ⟨(L0.b 1), 0, none⟩), .pointer (some ⟨(L0.b 2), 0, none⟩), .bool false, undef, undef, undef, undef, undef, .bool true, .bool false, undef, undef, undef, undef, undef, undef, undef, undef, undef, undef, undef, undef, undef, undef, undef, undef, undef, undef, undef, undef, undef, undef, undef, undef, undef, undef, undef, undef, undef, undef, undef, undef, undef, undef, undef, undef, undef, undef, undef, undef, undef, undef, undef, undef, undef, undef, undef, undef, undef, undef, undef, undef, undef, undef, undef, undef, undef, undef, undef, undef, undef, undef, undef, undef, undef, undef, undef, undef, undef, undef, undef, undef, undef, undef, undef, undef, undef, undef, undef, undef, undef, undef, undef, undef, undef, undef, undef, undef, undef, undef, undef, undef, undef, undef, undef, undef, undef]) (H' := fun L => [((L0.b 0), PC x), ((L0.b 1), PC y), ((L0.b 2), PC z)]) (by kernel_rfl) rfl rfl rfl (fun L => by kernel_rfl) (fun L => by kernel_rfl) hp1 ⟨
    ob_call (vs := #[]) (by kernel_rfl) (by kernel_rfl) (fun _ => rfl) rfl rfl (fun _ => by kernel_rfl) (fun w hb _ => hB w (K.stay hg hb)),
    ob_not (b := true) (fun _ => rfl) rfl rfl (fun _ => by kernel_rfl),
    trivial⟩ (fun L1 w2 hp2 => ?_)
  refine k3 _ _ ?_
  refine wp_cond_false (by kernel_rfl) ?_
  refine skips ?_
  refine k2 _ _ ?_
  refine wp_seq_k (fun K4 k4 => ?_)
  refine wp_seq_k (fun K5 k5 => ?_)
  refine goes (ks := [.det (PV x), .det (.bool true), .det (.bool false), .det (.bool false), .det (PV y), .det (.bool true), .det (.bool false), .det (.bool false), .det (.bool false), .det (PV z), .det (.bool true), .det (.bool false), .det (.bool false)]) (T := [0, 1, 3, 7, 15, 31, 63, 127, 255, 511, 1023, 2047, 4095]) (nt := 111) (nh := 3) (H := [((L0.b 0), PC x), ((L0.b 1), PC y), ((L0.b 2), PC z)]) (A := fun L => [PV x, PV y, PV z, .pointer (some ⟨(L0.b 0), 0, none⟩), .pointer (some ⟨(L0.b 1), 0, none⟩), .pointer (some ⟨(L0.b 2), 0, none⟩), .bool false, undef, undef, undef, undef, undef, .bool true, .bool false, PV x, .bool true, .bool false, .bool false, PV y, .bool true, .bool false, .bool false, .bool false, PV z, .bool true, .bool false, .bool false, undef, undef, undef, undef, undef, undef, undef, undef, undef, undef, undef, undef, undef, undef, undef, undef, undef, undef, undef, undef, undef, undef, undef, undef, undef, undef, undef, undef, undef, undef, undef, undef, undef, undef, undef, undef, undef, undef, undef, undef, undef, undef, undef, undef, undef, undef, undef, undef, undef, undef, undef, undef, undef, undef, undef, undef, undef, undef, undef, undef, undef, undef, undef, undef, undef, undef, undef, undef, undef, undef, undef, undef, undef, undef, undef, undef, undef, undef, undef, undef, undef, undef, undef, undef]) (H' := fun L => [((L0.b 0), PC x), ((L0.b 1), PC y), ((L0.b 2), PC z)]) (by kernel_rfl) rfl rfl rfl (fun L => by kernel_rfl) (fun L => by kernel_rfl) hp2 ⟨
    ob_load (b := (L0.b 0)) (off := 0) (cs := PC x) (by kernel_rfl) (fun _ => rfl) rfl rfl (fun _ => by kernel_rfl) (fun _ _ hs => (seen_at (k := 0) hs rfl).cells) Tryd.underlying26 rfl (sizePC _),
    ob_call (vs := #[PV x]) (by kernel_rfl) (by kernel_rfl) (fun _ => rfl) rfl rfl (fun _ => by kernel_rfl) (fun w _ _ => ref5MayP R _ w),
    ob_not (b := true) (fun _ => rfl) rfl rfl (fun _ => by kernel_rfl),
    ob_move (fun _ => rfl) rfl rfl (fun _ => by kernel_rfl),
    ob_load (b := (L0.b 1)) (off := 0) (cs := PC y) (by kernel_rfl) (fun _ => by kernel_rfl) rfl rfl (fun _ => by kernel_rfl) (fun _ _ hs => (seen_at (k := 1) hs rfl).cells) Tryd.underlying26 rfl (sizePC _),
    ob_call (vs := #[PV y]) (by kernel_rfl) (by kernel_rfl) (fun _ => by kernel_rfl) rfl rfl (fun _ => by kernel_rfl) (fun w _ _ => ref5MayP R _ w),
    ob_not (b := true) (fun _ => by kernel_rfl) rfl rfl (fun _ => by kernel_rfl),
    ob_pickF (fun _ => rfl) rfl rfl (fun _ => by kernel_rfl) (fun _ => by kernel_rfl),
    ob_move (fun _ => rfl) rfl rfl (fun _ => by kernel_rfl),
    ob_load (b := (L0.b 2)) (off := 0) (cs := PC z) (by kernel_rfl) (fun _ => by kernel_rfl) rfl rfl (fun _ => by kernel_rfl) (fun _ _ hs => (seen_at (k := 2) hs rfl).cells) Tryd.underlying26 rfl (sizePC _),
    ob_call (vs := #[PV z]) (by kernel_rfl) (by kernel_rfl) (fun _ => by kernel_rfl) rfl rfl (fun _ => by kernel_rfl) (fun w _ _ => ref5MayP R _ w),
    ob_not (b := true) (fun _ => by kernel_rfl) rfl rfl (fun _ => by kernel_rfl),
    ob_pickF (fun _ => rfl) rfl rfl (fun _ => by kernel_rfl) (fun _ => by kernel_rfl),
    trivial⟩ (fun L2 w3 hp3 => ?_)
  refine k5 _ _ ?_
  refine wp_cond_false (by kernel_rfl) ?_
  refine skips ?_
  refine k4 _ _ ?_
  refine wp_seq_k (fun K6 k6 => ?_)
  refine goes (ks := [.det (PV x), .det (.tuple #[PV 0, .int .i64 7]), .det (.tuple #[PV 0, .int .i64 7]), .det (PV 0), .det (.int .i64 7), .alloc (PC 0), .store (.new 5) 0 (PC 0) (PC 0), .det (.int .i64 7)]) (T := [0, 1, 3, 7, 7, 0, 47, 127]) (nt := 111) (nh := 3) (H := [((L0.b 0), PC x), ((L0.b 1), PC y), ((L0.b 2), PC z)]) (A := fun L => [PV x, PV y, PV z, .pointer (some ⟨(L0.b 0), 0, none⟩), .pointer (some ⟨(L0.b 1), 0, none⟩), .pointer (some ⟨(L0.b 2), 0, none⟩), .bool false, .pointer (some ⟨L.b 5, 0, none⟩), .int .i64 7, undef, undef, undef, .bool true, .bool false, PV x, .bool true, .bool false, .bool false, PV y, .bool true, .bool false, .bool false, .bool false, PV z, .bool true, .bool false, .bool false, .tuple #[PV 0, .int .i64 7], PV x, .tuple #[PV 0, .int .i64 7], PV 0, .int .i64 7, undef, undef, undef, undef, undef, undef, undef, undef, undef, undef, undef, undef, undef, undef, undef, undef, undef, undef, undef, undef, undef, undef, undef, undef, undef, undef, undef, undef, undef, undef, undef, undef, undef, undef, undef, undef, undef, undef, undef, undef, undef, undef, undef, undef, undef, undef, undef, undef, undef, undef, undef, undef, undef, undef, undef, undef, undef, undef, undef, undef, undef, undef, undef, undef, undef, undef, undef, undef, undef, undef, undef, undef, undef, undef, undef, undef, undef, undef, undef]) (H' := fun L => [((L0.b 0), PC x), ((L0.b 1), PC y), ((L0.b 2), PC z), (L.b 5, PC 0)]) (by kernel_rfl) rfl rfl rfl (fun L => by kernel_rfl) (fun L => by kernel_rfl) hp3 ⟨
    ob_load (b := (L0.b 0)) (off := 0) (cs := PC x) (by kernel_rfl) (fun _ => rfl) rfl rfl (fun _ => by kernel_rfl) (fun _ _ hs => (seen_at (k := 0) hs rfl).cells) Tryd.underlying26 rfl (sizePC _),
    ob_call (vs := #[PV x]) (by kernel_rfl) (by kernel_rfl) (fun _ => rfl) rfl rfl (fun _ => by kernel_rfl) (fun w hb _ => fp2Inv0 K x w (K.stay hg hb) (by rw [hx]; exact F2.norm_of_zero)),
    ob_move (fun _ => rfl) rfl rfl (fun _ => by kernel_rfl),
    ob_extract (vs := #[PV 0, .int .i64 7]) (fun _ => rfl) rfl rfl (fun _ => by kernel_rfl) rfl,
    ob_extract (vs := #[PV 0, .int .i64 7]) (fun _ => rfl) rfl rfl (fun _ => by kernel_rfl) rfl,
    ob_alloc (v := PV 0) (fun _ => rfl) rfl rfl zeroP rfl,
    ob_store (old := PC 0) (fun _ => rfl) rfl rfl (fun _ => by kernel_rfl) (fun _ => by kernel_rfl) rfl (sizePC _) (PC_one _) (le_len (PC_len _) (PC_len _) (by decide)) (splice_all ((PC_len _).trans (PC_len _).symm)).symm,
    ob_assign (fun _ => rfl) rfl rfl (fun _ => by kernel_rfl),
    trivial⟩ (fun L3 w4 hp4 => ?_)
  refine k6 _ _ ?_
  refine wp_seq_k (fun K7 k7 => ?_)
  refine goes (ks := [.det (FV 1), .det (PV ⟨1, 0⟩), .alloc (PC 0), .store (.new 2) 0 (PC ⟨1, 0⟩) (PC ⟨1, 0⟩)]) (T := [0, 1, 0, 7]) (nt := 111) (nh := 4) (H := [((L0.b 0), PC x), ((L0.b 1), PC y), ((L0.b 2), PC z), ((L3.b 5), PC 0)]) (A := fun L => [PV x, PV y, PV z, .pointer (some ⟨(L0.b 0), 0, none⟩), .pointer (some ⟨(L0.b 1), 0, none⟩), .pointer (some ⟨(L0.b 2), 0, none⟩), .bool false, .pointer (some ⟨(L3.b 5), 0, none⟩), .int .i64 7, .pointer (some ⟨L.b 2, 0, none⟩), undef, undef, .bool true, .bool false, PV x, .bool true, .bool false, .bool false, PV y, .bool true, .bool false, .bool false, .bool false, PV z, .bool true, .bool false, .bool false, .tuple #[PV 0, .int .i64 7], PV x, .tuple #[PV 0, .int .i64 7], PV 0, .int .i64 7, FV 1, PV ⟨1, 0⟩, undef, undef, undef, undef, undef, undef, undef, undef, undef, undef, undef, undef, undef, undef, undef, undef, undef, undef, undef, undef, undef, undef, undef, undef, undef, undef, undef, undef, undef, undef, undef, undef, undef, undef, undef, undef, undef, undef, undef, undef, undef, undef, undef, undef, undef, undef, undef, undef, undef, undef, undef, undef, undef, undef, undef, undef, undef, undef, undef, undef, undef, undef, undef, undef, undef, undef, undef, undef, undef, undef, undef, undef, undef, undef, undef, undef, undef]) (H' := fun L => [((L0.b 0), PC x), ((L0.b 1), PC y), ((L0.b 2), PC z), ((L3.b 5), PC 0), (L.b 2, PC ⟨1, 0⟩)]) (by kernel_rfl) rfl rfl rfl (fun L => by kernel_rfl) (fun L => by kernel_rfl) hp4 ⟨
    ob_build (qs := #[(0, .int .u64 1)]) (fun _ => rfl) rfl rfl (fun _ => by kernel_rfl) buildF1,
    ob_build (qs := #[(0, FV 1)]) (fun _ => rfl) rfl rfl (fun _ => by kernel_rfl) (buildPa _),
    ob_alloc (v := PV 0) (fun _ => rfl) rfl rfl zeroP rfl,
    ob_store (old := PC 0) (fun _ => rfl) rfl rfl (fun _ => by kernel_rfl) (fun _ => by kernel_rfl) rfl (sizePC _) (PC_one _) (le_len (PC_len _) (PC_len _) (by decide)) (splice_all ((PC_len _).trans (PC_len _).symm)).symm,
    trivial⟩ (fun L4 w5 hp5 => ?_)
  refine k7 _ _ ?_
  refine wp_seq_k (fun K8 k8 => ?_)
  refine draws (by kernel_rfl) (ks := [.det (PV x), .det (PV y), .det (PV (x + y)), .det (PV z), .det (PV ((x + y) * z)), .det (PV x), .det (PV z), .det (PV (x * z)), .det (PV y), .det (PV z), .det (PV (y * z)), .det (PV ((x * z) + (y * z))), .det (.bool true), .det (.bool true), .det (PV x), .det (PV y), .det (PV z), .det (PV (y * z)), .det (PV (x * (y * z))), .det (PV x), .det (PV y), .det (PV (x * y)), .det (PV z), .det (PV ((x * y) * z)), .det (.bool true), .det (.bool true), .det (.bool true), .det (PV x), .det (PV y), .det (PV (x * y)), .det (PV y), .det (PV x), .det (PV (y * x)), .det (.bool true), .det (.bool true), .det (.bool true)]) (T := [0, 0, 3, 0, 15, 0, 0, 127, 0, 0, 1023, 2047, 4095, 8191, 16383, 16383, 16383, 114687, 262143, 16383, 16383, 2097151, 16383, 8388607, 16777215, 33554431, 67108863, 134217727, 134217727, 536870911, 134217727, 134217727, 4294967295, 8589934591, 17179869183, 34359738367]) (nt := 111) (nh := 5) (H := [((L0.b 0), PC x), ((L0.b 1), PC y), ((L0.b 2), PC z), ((L3.b 5), PC 0), ((L4.b 2), PC ⟨1, 0⟩)]) (A := fun L => [PV x, PV y, PV z, .pointer (some ⟨(L0.b 0), 0, none⟩), .pointer (some ⟨(L0.b 1), 0, none⟩), .pointer (some ⟨(L0.b 2), 0, none⟩), .bool false, .pointer (some ⟨(L3.b 5), 0, none⟩), .int .i64 7, .pointer (some ⟨(L4.b 2), 0, none⟩), .bool true, undef, .bool true, .bool false, PV x, .bool true, .bool false, .bool false, PV y, .bool true, .bool false, .bool false, .bool false, PV z, .bool true, .bool false, .bool false, .tuple #[PV 0, .int .i64 7], PV x, .tuple #[PV 0, .int .i64 7], PV 0, .int .i64 7, FV 1, PV ⟨1, 0⟩, PV x, PV y, PV (x + y), PV z, PV ((x + y) * z), PV x, PV z, PV (x * z), PV y, PV z, PV (y * z), PV ((x * z) + (y * z)), .bool true, .bool true, PV x, PV y, PV z, PV (y * z), PV (x * (y * z)), PV x, PV y, PV (x * y), PV z, PV ((x * y) * z), .bool true, .bool true, .bool true, PV x, PV y, PV (x * y), PV y, PV x, PV (y * x), .bool true, .bool true, undef, undef, undef, undef, undef, undef, undef, undef, undef, undef, undef, undef, undef, undef, undef, undef, undef, undef, undef, undef, undef, undef, undef, undef, undef, undef, undef, undef, undef, undef, undef, undef, undef, undef, undef, undef, undef, undef, undef, undef, undef, undef]) (H' := fun L => [((L0.b 0), PC x), ((L0.b 1), PC y), ((L0.b 2), PC z), ((L3.b 5), PC 0), ((L4.b 2), PC ⟨1, 0⟩)]) (by kernel_rfl) rfl rfl rfl (fun L => by kernel_rfl) (fun L => by kernel_rfl) hp5 ⟨
    ob_load (b := (L0.b 0)) (off := 0) (cs := PC x) (by kernel_rfl) (fun _ => rfl) rfl rfl (fun _ => by kernel_rfl) (fun _ _ hs => (seen_at (k := 0) hs rfl).cells) Tryd.underlying26 rfl (sizePC _),
    ob_load (b := (L0.b 1)) (off := 0) (cs := PC y) (by kernel_rfl) (fun _ => rfl) rfl rfl (fun _ => by kernel_rfl) (fun _ _ hs => (seen_at (k := 1) hs rfl).cells) Tryd.underlying26 rfl (sizePC _),
    ob_call (vs := #[PV x, PV y]) (by kernel_rfl) (by kernel_rfl) (fun _ => rfl) rfl rfl (fun _ => by kernel_rfl) (fun w hb _ => fp2Add K _ _ w (K.stay hg hb)),
    ob_load (b := (L0.b 2)) (off := 0) (cs := PC z) (by kernel_rfl) (fun _ => rfl) rfl rfl (fun _ => by kernel_rfl) (fun _ _ hs => (seen_at (k := 2) hs rfl).cells) Tryd.underlying26 rfl (sizePC _),
    ob_call (vs := #[PV (x + y), PV z]) (by kernel_rfl) (by kernel_rfl) (fun _ => rfl) rfl rfl (fun _ => by kernel_rfl) (fun w hb _ => fp2Mul K _ _ w (K.stay hg hb)),
    ob_load (b := (L0.b 0)) (off := 0) (cs := PC x) (by kernel_rfl) (fun _ => rfl) rfl rfl (fun _ => by kernel_rfl) (fun _ _ hs => (seen_at (k := 0) hs rfl).cells) Tryd.underlying26 rfl (sizePC _),
    ob_load (b := (L0.b 2)) (off := 0) (cs := PC z) (by kernel_rfl) (fun _ => rfl) rfl rfl (fun _ => by kernel_rfl) (fun _ _ hs => (seen_at (k := 2) hs rfl).cells) Tryd.underlying26 rfl (sizePC _),
    ob_call (vs := #[PV x, PV z]) (by kernel_rfl) (by kernel_rfl) (fun _ => rfl) rfl rfl (fun _ => by kernel_rfl) (fun w hb _ => fp2Mul K _ _ w (K.stay hg hb)),
    ob_load (b := (L0.b 1)) (off := 0) (cs := PC y) (by kernel_rfl) (fun _ => rfl) rfl rfl (fun _ => by kernel_rfl) (fun _ _ hs => (seen_at (k := 1) hs rfl).cells) Tryd.underlying26 rfl (sizePC _),
    ob_load (b := (L0.b 2)) (off := 0) (cs := PC z) (by kernel_rfl) (fun _ => rfl) rfl rfl (fun _ => by kernel_rfl) (fun _ _ hs => (seen_at (k := 2) hs rfl).cells) Tryd.underlying26 rfl (sizePC _),
    ob_call (vs := #[PV y, PV z]) (by kernel_rfl) (by kernel_rfl) (fun _ => rfl) rfl rfl (fun _ => by kernel_rfl) (fun w hb _ => fp2Mul K _ _ w (K.stay hg hb)),
    ob_call (vs := #[PV (x * z), PV (y * z)]) (by kernel_rfl) (by kernel_rfl) (fun _ => rfl) rfl rfl (fun _ => by kernel_rfl) (fun w hb _ => fp2Add K _ _ w (K.stay hg hb)),
    ob_eq (u := PV ((x + y) * z)) (v := PV ((x * z) + (y * z))) (fun _ => rfl) rfl rfl (fun _ => by kernel_rfl) (fun _ => by kernel_rfl) (fun w => guardP _ _ _ _ _ w) (fun w => (eqlP _ _ w).trans (by rw [decide_eq_true (F2.add_mul' x y z)]; try rfl)),
    ob_move (fun _ => rfl) rfl rfl (fun _ => by kernel_rfl),
    ob_load (b := (L0.b 0)) (off := 0) (cs := PC x) (by kernel_rfl) (fun _ => by kernel_rfl) rfl rfl (fun _ => by kernel_rfl) (fun _ _ hs => (seen_at (k := 0) hs rfl).cells) Tryd.underlying26 rfl (sizePC _),
    ob_load (b := (L0.b 1)) (off := 0) (cs := PC y) (by kernel_rfl) (fun _ => by kernel_rfl) rfl rfl (fun _ => by kernel_rfl) (fun _ _ hs => (seen_at (k := 1) hs rfl).cells) Tryd.underlying26 rfl (sizePC _),
    ob_load (b := (L0.b 2)) (off := 0) (cs := PC z) (by kernel_rfl) (fun _ => by kernel_rfl) rfl rfl (fun _ => by kernel_rfl) (fun _ _ hs => (seen_at (k := 2) hs rfl).cells) Tryd.underlying26 rfl (sizePC _),
    ob_call (vs := #[PV y, PV z]) (by kernel_rfl) (by kernel_rfl) (fun _ => by kernel_rfl) rfl rfl (fun _ => by kernel_rfl) (fun w hb _ => fp2Mul K _ _ w (K.stay hg hb)),
    ob_call (vs := #[PV x, PV (y * z)]) (by kernel_rfl) (by kernel_rfl) (fun _ => by kernel_rfl) rfl rfl (fun _ => by kernel_rfl) (fun w hb _ => fp2Mul K _ _ w (K.stay hg hb)),
    ob_load (b := (L0.b 0)) (off := 0) (cs := PC x) (by kernel_rfl) (fun _ => by kernel_rfl) rfl rfl (fun _ => by kernel_rfl) (fun _ _ hs => (seen_at (k := 0) hs rfl).cells) Tryd.underlying26 rfl (sizePC _),
    ob_load (b := (L0.b 1)) (off := 0) (cs := PC y) (by kernel_rfl) (fun _ => by kernel_rfl) rfl rfl (fun _ => by kernel_rfl) (fun _ _ hs => (seen_at (k := 1) hs rfl).cells) Tryd.underlying26 rfl (sizePC _),
    ob_call (vs := #[PV x, PV y]) (by kernel_rfl) (by kernel_rfl) (fun _ => by kernel_rfl) rfl rfl (fun _ => by kernel_rfl) (fun w hb _ => fp2Mul K _ _ w (K.stay hg hb)),
    ob_load (b := (L0.b 2)) (off := 0) (cs := PC z) (by kernel_rfl) (fun _ => by kernel_rfl) rfl rfl (fun _ => by kernel_rfl) (fun _ _ hs => (seen_at (k := 2) hs rfl).cells) Tryd.underlying26 rfl (sizePC _),
    ob_call (vs := #[PV (x * y), PV z]) (by kernel_rfl) (by kernel_rfl) (fun _ => by kernel_rfl) rfl rfl (fun _ => by kernel_rfl) (fun w hb _ => fp2Mul K _ _ w (K.stay hg hb)),
    ob_eq (u := PV (x * (y * z))) (v := PV ((x * y) * z)) (fun _ => by kernel_rfl) rfl rfl (fun _ => by kernel_rfl) (fun _ => by kernel_rfl) (fun w => guardP _ _ _ _ _ w) (fun w => (eqlP _ _ w).trans (by rw [decide_eq_true (F2.mul_assoc' x y z)]; try rfl)),
    ob_pickT (fun _ => rfl) rfl rfl (fun _ => by kernel_rfl) (fun _ => by kernel_rfl),
    ob_move (fun _ => rfl) rfl rfl (fun _ => by kernel_rfl),
    ob_load (b := (L0.b 0)) (off := 0) (cs := PC x) (by kernel_rfl) (fun _ => by kernel_rfl) rfl rfl (fun _ => by kernel_rfl) (fun _ _ hs => (seen_at (k := 0) hs rfl).cells) Tryd.underlying26 rfl (sizePC _),
    ob_load (b := (L0.b 1)) (off := 0) (cs := PC y) (by kernel_rfl) (fun _ => by kernel_rfl) rfl rfl (fun _ => by kernel_rfl) (fun _ _ hs => (seen_at (k := 1) hs rfl).cells) Tryd.underlying26 rfl (sizePC _),
    ob_call (vs := #[PV x, PV y]) (by kernel_rfl) (by kernel_rfl) (fun _ => by kernel_rfl) rfl rfl (fun _ => by kernel_rfl) (fun w hb _ => fp2Mul K _ _ w (K.stay hg hb)),
    ob_load (b := (L0.b 1)) (off := 0) (cs := PC y) (by kernel_rfl) (fun _ => by kernel_rfl) rfl rfl (fun _ => by kernel_rfl) (fun _ _ hs => (seen_at (k := 1) hs rfl).cells) Tryd.underlying26 rfl (sizePC _),
    ob_load (b := (L0.b 0)) (off := 0) (cs := PC x) (by kernel_rfl) (fun _ => by kernel_rfl) rfl rfl (fun _ => by kernel_rfl) (fun _ _ hs => (seen_at (k := 0) hs rfl).cells) Tryd.underlying26 rfl (sizePC _),
    ob_call (vs := #[PV y, PV x]) (by kernel_rfl) (by kernel_rfl) (fun _ => by kernel_rfl) rfl rfl (fun _ => by kernel_rfl) (fun w hb _ => fp2Mul K _ _ w (K.stay hg hb)),
    ob_eq (u := PV (x * y)) (v := PV (y * x)) (fun _ => by kernel_rfl) rfl rfl (fun _ => by kernel_rfl) (fun _ => by kernel_rfl) (fun w => guardP _ _ _ _ _ w) (fun w => (eqlP _ _ w).trans (by rw [decide_eq_true (F2.mul_comm' x y)]; try rfl)),
    ob_pickT (fun _ => rfl) rfl rfl (fun _ => by kernel_rfl) (fun _ => by kernel_rfl),
    ob_assign (fun _ => rfl) rfl rfl (fun _ => by kernel_rfl),
    trivial⟩ (fun L5 w6 hp6 => ?_)
  refine k8 _ _ ?_
  refine wp_seq_k (fun K9 k9 => ?_)
  refine draws (by kernel_rfl) (ks := [.det (PV x), .det (PV y), .det (PV (x * y)), .det (PV ((x * y).conj)), .det (PV x), .det (PV x.conj), .det (PV y), .det (PV y.conj), .det (PV (x.conj * y.conj)), .det (.bool true), .det (.bool true), .det (PV x), .any (isP), .det (PV x.conj), .det (PV x), .det (PV x.conj), .det (.bool true), .det (.bool true), .det (.bool true)]) (T := [0, 0, 3, 7, 0, 31, 0, 127, 255, 511, 1023, 2047, 2047, 8191, 2047, 32767, 65535, 131071, 262143]) (nt := 111) (nh := 5) (H := [((L0.b 0), PC x), ((L0.b 1), PC y), ((L0.b 2), PC z), ((L3.b 5), PC 0), ((L4.b 2), PC ⟨1, 0⟩)]) (A := fun L => [PV x, PV y, PV z, .pointer (some ⟨(L0.b 0), 0, none⟩), .pointer (some ⟨(L0.b 1), 0, none⟩), .pointer (some ⟨(L0.b 2), 0, none⟩), .bool false, .pointer (some ⟨(L3.b 5), 0, none⟩), .int .i64 7, .pointer (some ⟨(L4.b 2), 0, none⟩), .bool true, .bool true, .bool true, .bool false, PV x, .bool true, .bool false, .bool false, PV y, .bool true, .bool false, .bool false, .bool false, PV z, .bool true, .bool false, .bool false, .tuple #[PV 0, .int .i64 7], PV x, .tuple #[PV 0, .int .i64 7], PV 0, .int .i64 7, FV 1, PV ⟨1, 0⟩, PV x, PV y, PV (x + y), PV z, PV ((x + y) * z), PV x, PV z, PV (x * z), PV y, PV z, PV (y * z), PV ((x * z) + (y * z)), .bool true, .bool true, PV x, PV y, PV z, PV (y * z), PV (x * (y * z)), PV x, PV y, PV (x * y), PV z, PV ((x * y) * z), .bool true, .bool true, .bool true, PV x, PV y, PV (x * y), PV y, PV x, PV (y * x), .bool true, .bool true, PV x, PV y, PV (x * y), PV ((x * y).conj), PV x, PV x.conj, PV y, PV y.conj, PV (x.conj * y.conj), .bool true, .bool true, PV x, L.v 12, PV x.conj, PV x, PV x.conj, .bool true, .bool true, undef, undef, undef, undef, undef, undef, undef, undef, undef, undef, undef, undef, undef, undef, undef, undef, undef, undef, undef, undef, undef, undef, undef, undef]) (H' := fun L => [((L0.b 0), PC x), ((L0.b 1), PC y), ((L0.b 2), PC z), ((L3.b 5), PC 0), ((L4.b 2), PC ⟨1, 0⟩)]) (by kernel_rfl) rfl rfl rfl (fun L => by kernel_rfl) (fun L => by kernel_rfl) hp6 ⟨
    ob_load (b := (L0.b 0)) (off := 0) (cs := PC x) (by kernel_rfl) (fun _ => rfl) rfl rfl (fun _ => by kernel_rfl) (fun _ _ hs => (seen_at (k := 0) hs rfl).cells) Tryd.underlying26 rfl (sizePC _),
    ob_load (b := (L0.b 1)) (off := 0) (cs := PC y) (by kernel_rfl) (fun _ => rfl) rfl rfl (fun _ => by kernel_rfl) (fun _ _ hs => (seen_at (k := 1) hs rfl).cells) Tryd.underlying26 rfl (sizePC _),
    ob_call (vs := #[PV x, PV y]) (by kernel_rfl) (by kernel_rfl) (fun _ => rfl) rfl rfl (fun _ => by kernel_rfl) (fun w hb _ => fp2Mul K _ _ w (K.stay hg hb)),
    ob_call (vs := #[PV (x * y)]) (by kernel_rfl) (by kernel_rfl) (fun _ => rfl) rfl rfl (fun _ => by kernel_rfl) (fun w hb _ => fp2Conj K _ w (K.stay hg hb)),
    ob_load (b := (L0.b 0)) (off := 0) (cs := PC x) (by kernel_rfl) (fun _ => rfl) rfl rfl (fun _ => by kernel_rfl) (fun _ _ hs => (seen_at (k := 0) hs rfl).cells) Tryd.underlying26 rfl (sizePC _),
    ob_call (vs := #[PV x]) (by kernel_rfl) (by kernel_rfl) (fun _ => rfl) rfl rfl (fun _ => by kernel_rfl) (fun w hb _ => fp2Conj K _ w (K.stay hg hb)),
    ob_load (b := (L0.b 1)) (off := 0) (cs := PC y) (by kernel_rfl) (fun _ => rfl) rfl rfl (fun _ => by kernel_rfl) (fun _ _ hs => (seen_at (k := 1) hs rfl).cells) Tryd.underlying26 rfl (sizePC _),
    ob_call (vs := #[PV y]) (by kernel_rfl) (by kernel_rfl) (fun _ => rfl) rfl rfl (fun _ => by kernel_rfl) (fun w hb _ => fp2Conj K _ w (K.stay hg hb)),
    ob_call (vs := #[PV x.conj, PV y.conj]) (by kernel_rfl) (by kernel_rfl) (fun _ => rfl) rfl rfl (fun _ => by kernel_rfl) (fun w hb _ => fp2Mul K _ _ w (K.stay hg hb)),
    ob_eq (u := PV ((x * y).conj)) (v := PV (x.conj * y.conj)) (fun _ => rfl) rfl rfl (fun _ => by kernel_rfl) (fun _ => by kernel_rfl) (fun w => guardP _ _ _ _ _ w) (fun w => (eqlP _ _ w).trans (by rw [decide_eq_true (F2.conj_mul' x y)]; try rfl)),
    ob_move (fun _ => rfl) rfl rfl (fun _ => by kernel_rfl),
    ob_load (b := (L0.b 0)) (off := 0) (cs := PC x) (by kernel_rfl) (fun _ => by kernel_rfl) rfl rfl (fun _ => by kernel_rfl) (fun _ _ hs => (seen_at (k := 0) hs rfl).cells) Tryd.underlying26 rfl (sizePC _),
    ob_any (vs := fun _ => #[]) (by kernel_rfl) (by kernel_rfl) (fun _ => by kernel_rfl) rfl rfl (fun _ => by kernel_rfl) (fun _ _ _ h hb => h.stay hb) (fun _ w _ => newP w),
    ob_callS (vs := fun L => #[PV x, L.v 12]) (by kernel_rfl) (by kernel_rfl) (fun _ => by kernel_rfl) rfl rfl (fun _ => by kernel_rfl) (fun L w hs => powP K x _ w (K.stay hg hs.bel) (hs.any 12 _ rfl rfl)),
    ob_load (b := (L0.b 0)) (off := 0) (cs := PC x) (by kernel_rfl) (fun _ => by kernel_rfl) rfl rfl (fun _ => by kernel_rfl) (fun _ _ hs => (seen_at (k := 0) hs rfl).cells) Tryd.underlying26 rfl (sizePC _),
    ob_call (vs := #[PV x]) (by kernel_rfl) (by kernel_rfl) (fun _ => by kernel_rfl) rfl rfl (fun _ => by kernel_rfl) (fun w hb _ => fp2Conj K _ w (K.stay hg hb)),
    ob_eq (u := PV x.conj) (v := PV x.conj) (fun _ => by kernel_rfl) rfl rfl (fun _ => by kernel_rfl) (fun _ => by kernel_rfl) (fun w => guardP _ _ _ _ _ w) (fun w => (eqlP _ _ w).trans (by rw [decide_eq_true (rfl)]; try rfl)),
    ob_pickT (fun _ => rfl) rfl rfl (fun _ => by kernel_rfl) (fun _ => by kernel_rfl),
    ob_assign (fun _ => rfl) rfl rfl (fun _ => by kernel_rfl),
    trivial⟩ (fun L6 w7 hp7 => ?_)
  refine k9 _ _ ?_
  refine wp_seq_k (fun K10 k10 => ?_)
  refine draws (by kernel_rfl) (ks := [.det (.bool true), .det (.bool true), .det (.bool true), .det (.bool true), .det (.bool true), .det (PV x), .det (PV 0), .det (.bool true), .det (.bool true), .det (.int .i64 7), .det (.bool true), .det (.bool true), .det (.bool true), .det undef, .det undef, .det undef, .det undef, .det undef, .det undef, .det undef, .det undef, .det undef, .det (.bool true), .det (.bool true), .det (.bool true)]) (T := [0, 1, 3, 7, 15, 31, 31, 127, 255, 511, 1023, 2047, 4095, 8191, 16383, 32767, 65535, 65535, 262143, 65535, 1048575, 2097151, 4194303, 8388607, 16777215]) (nt := 111) (nh := 5) (H := [((L0.b 0), PC x), ((L0.b 1), PC y), ((L0.b 2), PC z), ((L3.b 5), PC 0), ((L4.b 2), PC ⟨1, 0⟩)]) (A := fun L => [PV x, PV y, PV z, .pointer (some ⟨(L0.b 0), 0, none⟩), .pointer (some ⟨(L0.b 1), 0, none⟩), .pointer (some ⟨(L0.b 2), 0, none⟩), .bool true, .pointer (some ⟨(L3.b 5), 0, none⟩), .int .i64 7, .pointer (some ⟨(L4.b 2), 0, none⟩), .bool true, .bool true, .bool true, .bool false, PV x, .bool true, .bool false, .bool false, PV y, .bool true, .bool false, .bool false, .bool false, PV z, .bool true, .bool false, .bool false, .tuple #[PV 0, .int .i64 7], PV x, .tuple #[PV 0, .int .i64 7], PV 0, .int .i64 7, FV 1, PV ⟨1, 0⟩, PV x, PV y, PV (x + y), PV z, PV ((x + y) * z), PV x, PV z, PV (x * z), PV y, PV z, PV (y * z), PV ((x * z) + (y * z)), .bool true, .bool true, PV x, PV y, PV z, PV (y * z), PV (x * (y * z)), PV x, PV y, PV (x * y), PV z, PV ((x * y) * z), .bool true, .bool true, .bool true, PV x, PV y, PV (x * y), PV y, PV x, PV (y * x), .bool true, .bool true, PV x, PV y, PV (x * y), PV ((x * y).conj), PV x, PV x.conj, PV y, PV y.conj, PV (x.conj * y.conj), .bool true, .bool true, PV x, (L6.v 12), PV x.conj, PV x, PV x.conj, .bool true, .bool true, .bool true, .bool true, .bool true, .bool true, .bool true, PV x, PV 0, .bool true, .bool true, .int .i64 7, .bool true, .bool true, .bool true, undef, undef, undef, undef, undef, undef, undef, undef, undef, .bool true, .bool true]) (H' := fun L => [((L0.b 0), PC x), ((L0.b 1), PC y), ((L0.b 2), PC z), ((L3.b 5), PC 0), ((L4.b 2), PC ⟨1, 0⟩)]) (by kernel_rfl) rfl rfl rfl (fun L => by kernel_rfl) (fun L => by kernel_rfl) hp7 ⟨
    ob_move (fun _ => rfl) rfl rfl (fun _ => by kernel_rfl),
    ob_move (fun _ => rfl) rfl rfl (fun _ => by kernel_rfl),
    ob_move (fun _ => by kernel_rfl) rfl rfl (fun _ => by kernel_rfl),
    ob_pickT (fun _ => rfl) rfl rfl (fun _ => by kernel_rfl) (fun _ => by kernel_rfl),
    ob_move (fun _ => rfl) rfl rfl (fun _ => by kernel_rfl),
    ob_load (b := (L0.b 0)) (off := 0) (cs := PC x) (by kernel_rfl) (fun _ => by kernel_rfl) rfl rfl (fun _ => by kernel_rfl) (fun _ _ hs => (seen_at (k := 0) hs rfl).cells) Tryd.underlying26 rfl (sizePC _),
    ob_build (qs := #[]) (fun _ => by kernel_rfl) rfl rfl (fun _ => by kernel_rfl) buildP0,
    ob_eq (u := PV x) (v := PV 0) (fun _ => by kernel_rfl) rfl rfl (fun _ => by kernel_rfl) (fun _ => by kernel_rfl) (fun w => guardP _ _ _ _ _ w) (fun w => (eqlP _ _ w).trans (by rw [decide_eq_true (hx)]; try rfl)),
    ob_move (fun _ => by kernel_rfl) rfl rfl (fun _ => by kernel_rfl),
    ob_move (fun _ => by kernel_rfl) rfl rfl (fun _ => by kernel_rfl),
    ob_eq (u := .int .i64 7) (v := .int .i64 7) (fun _ => by kernel_rfl) rfl rfl (fun _ => by kernel_rfl) (fun _ => by kernel_rfl) (fun w => guardI _ _ _ _ _ _ _ _ w) (fun w => (eqlI _ _ _ _ w).trans rfl),
    ob_pickT (fun _ => by kernel_rfl) rfl rfl (fun _ => by kernel_rfl) (fun _ => by kernel_rfl),
    ob_move (fun _ => by kernel_rfl) rfl rfl (fun _ => by kernel_rfl),
    ob_skip (fun _ => by kernel_rfl) rfl,
    ob_skip (fun _ => by kernel_rfl) rfl,
    ob_skip (fun _ => by kernel_rfl) rfl,
    ob_skip (fun _ => by kernel_rfl) rfl,
    ob_skip (fun _ => by kernel_rfl) rfl,
    ob_skip (fun _ => by kernel_rfl) rfl,
    ob_skip (fun _ => by kernel_rfl) rfl,
    ob_skip (fun _ => by kernel_rfl) rfl,
    ob_skip (fun _ => by kernel_rfl) rfl,
    ob_pickT (fun _ => by kernel_rfl) rfl rfl (fun _ => by kernel_rfl) (fun _ => by kernel_rfl),
    ob_pickT (fun _ => rfl) rfl rfl (fun _ => by kernel_rfl) (fun _ => by kernel_rfl),
    ob_assign (fun _ => rfl) rfl rfl (fun _ => by kernel_rfl),
    trivial⟩ (fun L7 w8 hp8 => ?_)
  refine k10 _ _ ?_
  refine wp_ret ?_
  exact bodyPost_ret (v := .bool true) (res_t rfl (by kernel_rfl) _) rfl ⟨rfl, hp8.bel⟩
set_option maxHeartbeats 4000000 in
theorem field4 {G : World → Prop} (K : FpK G) (R : RefK) (x y z : F2) (w : World) (hg : G w) (hB : ∀ w, G w → Calls Tryd.prog 7 #[] w (Ret (.bool true) w)) (hx : x ≠ 0) : Calls Tryd.prog 5 #[PV x, PV y, PV z] w (Ret (.bool true) w) := by
  have hp0 := Heap.start w
  go_enter Tryd.func5, Tryd.ntmps5
  refine wp_seq_k (fun K1 k1 => ?_)
  refine goes (ks := [.alloc (PC x), .alloc (PC y), .alloc (PC z), .det (.bool false)]) (T := [0, 0, 0, 0]) (nt := 111) (nh := 0) (H := []) (A := fun L => [PV x, PV y, PV z, .pointer (some ⟨L.b 0, 0, none⟩), .pointer (some ⟨L.b 1, 0, none⟩), .pointer (some ⟨L.b 2, 0, none⟩), .bool false, undef, undef, undef, undef, undef, undef, undef, undef, undef, undef, undef, undef, undef, undef, undef, undef, undef, undef, undef, undef, undef, undef, undef, undef, undef, undef, undef, undef, undef, undef, undef, undef, undef, undef, undef, undef, undef, undef, undef, undef, undef, undef, undef, undef, undef, undef, undef, undef, undef, undef, undef, undef, undef, undef, undef, undef, undef, undef, undef, undef, undef, undef, undef, undef, undef, undef, undef, undef, undef, undef, undef, undef, undef, undef, undef, undef, undef, undef, undef, undef, undef, undef, undef, undef, undef, undef, undef, undef, undef, undef, undef, undef, undef, undef, undef, undef, undef, undef, undef, undef, undef, undef, undef, undef]) (H' := fun L => [(L.b 0, PC x), (L.b 1, PC y), (L.b 2, PC z)]) (by kernel_rfl) rfl rfl rfl (fun L => by kernel_rfl) (fun L => by kernel_rfl) hp0 ⟨
    ob_box (v := PV x) (fun _ => rfl) rfl rfl (fun _ => by kernel_rfl) rfl,
    ob_box (v := PV y) (fun _ => rfl) rfl rfl (fun _ => by kernel_rfl) rfl,
    ob_box (v := PV z) (fun _ => rfl) rfl rfl (fun _ => by kernel_rfl) rfl,
    ob_assign (fun _ => rfl) rfl rfl (fun _ => by kernel_rfl),
    trivial⟩ (fun L0 w1 hp1 => ?_)
  refine k1 _ _ ?_
  refine wp_seq_k (fun K2 k2 => ?_)
  refine wp_seq_k (fun K3 k3 => ?_)
  refine goes (ks := [.det (.bool true), .det (.bool false)]) (T := [0, 1]) (nt := 111) (nh := 3) (H := [((L0.b 0), PC x), ((L0.b 1), PC y), ((L0.b 2), PC z)]) (A := fun L => [PV x, PV y, PV z, .pointer (some ⟨(L0.b 0), 0, none⟩), .pointer (some ⟨(L0.b 1), 0, none⟩), .pointer (some ⟨(L0.b 2), 0, none⟩), .bool false, undef, undef, undef, undef, undef, .bool true, .bool false, undef, undef, undef, undef, undef, undef, undef, undef, undef, undef, undef, undef, undef, undef, undef, undef, undef, undef, undef, undef, undef, undef, undef, undef, undef, undef, undef, undef, undef, undef, undef, undef, undef, undef, undef, undef, undef, undef, undef, undef, undef, undef, undef, undef, undef, undef, undef, undef, undef, undef, undef, undef, undef, undef, undef, undef, undef, undef, undef, undef, undef, undef, undef, undef, undef, undef, undef, undef, undef, undef, undef, undef, undef, undef, undef, undef, undef, undef, undef, undef, undef, undef, undef, undef, undef, undef, undef, undef, undef, undef, undef, undef, undef, undef, undef, undef, undef]) (H' := fun L => [((L0.b 0), PC x), ((L0.b 1), PC y), ((L0.b 2), PC z)]) (by kernel_rfl) rfl rfl rfl (fun L => by kernel_rfl) (fun L => by kernel_rfl) hp1 ⟨
    ob_call (vs := #[]) (by kernel_rfl) (by kernel_rfl) (fun _ => rfl) rfl rfl (fun _ => by kernel_rfl) (fun w hb _ => hB w (K.stay hg hb)),
    ob_not (b := true) (fun _ => rfl) rfl rfl (fun _ => by kernel_rfl),
    trivial⟩ (fun L1 w2 hp2 => ?_)
  refine k3 _ _ ?_
  refine wp_cond_false (by kernel_rfl) ?_
  refine skips ?_
  refine k2 _ _ ?_
  refine wp_seq_k (fun K4 k4 => ?_)
  refine wp_seq_k (fun K5 k5 => ?_)
  refine goes (ks := [.det (PV x), .det (.bool true), .det (.bool false), .det (.bool false), .det (PV y), .det (.bool true), .det (.bool false), .det (.bool false), .det (.bool false), .det (PV z), .det (.bool true), .det (.bool false), .det (.bool false)]) (T := [0, 1, 3, 7, 15, 31, 63, 127, 255, 511, 1023, 2047, 4095]) (nt := 111) (nh := 3) (H := [((L0.b 0), PC x), ((L0.b 1), PC y), ((L0.b 2), PC z)]) (A := fun L => [PV x, PV y, PV z, .pointer (some ⟨(L0.b 0), 0, none⟩), .pointer (some ⟨(L0.b 1), 0, none⟩), .pointer (some ⟨(L0.b 2), 0, none⟩), .bool false, undef, undef, undef, undef, undef, .bool true, .bool false, PV x, .bool true, .bool false, .bool false, PV y, .bool true, .bool false, .bool false, .bool false, PV z, .bool true, .bool false, .bool false, undef, undef, undef, undef, undef, undef, undef, undef, undef, undef, undef, undef, undef, undef, undef, undef, undef, undef, undef, undef, undef, undef, undef, undef, undef, undef, undef, undef, undef, undef, undef, undef, undef, undef, undef, undef, undef, undef, undef, undef, undef, undef, undef, undef, undef, undef, undef, undef, undef, undef, undef, undef, undef, undef, undef, undef, undef, undef, undef, undef, undef, undef, undef, undef, undef, undef, undef, undef, undef, undef, undef, undef, undef, undef, undef, undef, undef, undef, undef, undef, undef, undef, undef, undef]) (H' := fun L => [((L0.b 0), PC x), ((L0.b 1), PC y), ((L0.b 2), PC z)]) (by kernel_rfl) rfl rfl rfl (fun L => by kernel_rfl) (fun L => by kernel_rfl) hp2 ⟨
    ob_load (b := (L0.b 0)) (off := 0) (cs := PC x) (by kernel_rfl) (fun _ => rfl) rfl rfl (fun _ => by kernel_rfl) (fun _ _ hs => (seen_at (k := 0) hs rfl).cells) Tryd.underlying26 rfl (sizePC _),
    ob_call (vs := #[PV x]) (by kernel_rfl) (by kernel_rfl) (fun _ => rfl) rfl rfl (fun _ => by kernel_rfl) (fun w _ _ => ref5MayP R _ w),
    ob_not (b := true) (fun _ => rfl) rfl rfl (fun _ => by kernel_rfl),
    ob_move (fun _ => rfl) rfl rfl (fun _ => by kernel_rfl),
    ob_load (b := (L0.b 1)) (off := 0) (cs := PC y) (by kernel_rfl) (fun _ => by kernel_rfl) rfl rfl (fun _ => by kernel_rfl) (fun _ _ hs => (seen_at (k := 1) hs rfl).cells) Tryd.underlying26 rfl (sizePC _),
    ob_call (vs := #[PV y]) (by kernel_rfl) (by kernel_rfl) (fun _ => by kernel_rfl) rfl rfl (fun _ => by kernel_rfl) (fun w _ _ => ref5MayP R _ w),
    ob_not (b := true) (fun _ => by kernel_rfl) rfl rfl (fun _ => by kernel_rfl),
    ob_pickF (fun _ => rfl) rfl rfl (fun _ => by kernel_rfl) (fun _ => by kernel_rfl),
    ob_move (fun _ => rfl) rfl rfl (fun _ => by kernel_rfl),
    ob_load (b := (L0.b 2)) (off := 0) (cs := PC z) (by kernel_rfl) (fun _ => by kernel_rfl) rfl rfl (fun _ => by kernel_rfl) (fun _ _ hs => (seen_at (k := 2) hs rfl).cells) Tryd.underlying26 rfl (sizePC _),
    ob_call (vs := #[PV z]) (by kernel_rfl) (by kernel_rfl) (fun _ => by kernel_rfl) rfl rfl (fun _ => by kernel_rfl) (fun w _ _ => ref5MayP R _ w),
    ob_not (b := true) (fun _ => by kernel_rfl) rfl rfl (fun _ => by kernel_rfl),
    ob_pickF (fun _ => rfl) rfl rfl (fun _ => by kernel_rfl) (fun _ => by kernel_rfl),
    trivial⟩ (fun L2 w3 hp3 => ?_)
  refine k5 _ _ ?_
  refine wp_cond_false (by kernel_rfl) ?_
  refine skips ?_
  refine k4 _ _ ?_
  refine wp_seq_k (fun K6 k6 => ?_)
  refine goes (ks := [.det (PV x), .det (.tuple #[PV x.inv, .int .i64 0]), .det (.tuple #[PV x.inv, .int .i64 0]), .det (PV x.inv), .det (.int .i64 0), .alloc (PC 0), .store (.new 5) 0 (PC x.inv) (PC x.inv), .det (.int .i64 0)]) (T := [0, 1, 3, 7, 7, 0, 47, 127]) (nt := 111) (nh := 3) (H := [((L0.b 0), PC x), ((L0.b 1), PC y), ((L0.b 2), PC z)]) (A := fun L => [PV x, PV y, PV z, .pointer (some ⟨(L0.b 0), 0, none⟩), .pointer (some ⟨(L0.b 1), 0, none⟩), .pointer (some ⟨(L0.b 2), 0, none⟩), .bool false, .pointer (some ⟨L.b 5, 0, none⟩), .int .i64 0, undef, undef, undef, .bool true, .bool false, PV x, .bool true, .bool false, .bool false, PV y, .bool true, .bool false, .bool false, .bool false, PV z, .bool true, .bool false, .bool false, .tuple #[PV x.inv, .int .i64 0], PV x, .tuple #[PV x.inv, .int .i64 0], PV x.inv, .int .i64 0, undef, undef, undef, undef, undef, undef, undef, undef, undef, undef, undef, undef, undef, undef, undef, undef, undef, undef, undef, undef, undef, undef, undef, undef, undef, undef, undef, undef, undef, undef, undef, undef, undef, undef, undef, undef, undef, undef, undef, undef, undef, undef, undef, undef, undef, undef, undef, undef, undef, undef, undef, undef, undef, undef, undef, undef, undef, undef, undef, undef, undef, undef, undef, undef, undef, undef, undef, undef, undef, undef, undef, undef, undef, undef, undef, undef, undef, undef, undef]) (H' := fun L => [((L0.b 0), PC x), ((L0.b 1), PC y), ((L0.b 2), PC z), (L.b 5, PC x.inv)]) (by kernel_rfl) rfl rfl rfl (fun L => by kernel_rfl) (fun L => by kernel_rfl) hp3 ⟨
    ob_load (b := (L0.b 0)) (off := 0) (cs := PC x) (by kernel_rfl) (fun _ => rfl) rfl rfl (fun _ => by kernel_rfl) (fun _ _ hs => (seen_at (k := 0) hs rfl).cells) Tryd.underlying26 rfl (sizePC _),
    ob_call (vs := #[PV x]) (by kernel_rfl) (by kernel_rfl) (fun _ => rfl) rfl rfl (fun _ => by kernel_rfl) (fun w hb _ => fp2Inv K x w (K.stay hg hb) (F2.norm_ne hx)),
    ob_move (fun _ => rfl) rfl rfl (fun _ => by kernel_rfl),
    ob_extract (vs := #[PV x.inv, .int .i64 0]) (fun _ => rfl) rfl rfl (fun _ => by kernel_rfl) rfl,
    ob_extract (vs := #[PV x.inv, .int .i64 0]) (fun _ => rfl) rfl rfl (fun _ => by kernel_rfl) rfl,
    ob_alloc (v := PV 0) (fun _ => rfl) rfl rfl zeroP rfl,
    ob_store (old := PC 0) (fun _ => rfl) rfl rfl (fun _ => by kernel_rfl) (fun _ => by kernel_rfl) rfl (sizePC _) (PC_one _) (le_len (PC_len _) (PC_len _) (by decide)) (splice_all ((PC_len _).trans (PC_len _).symm)).symm,
    ob_assign (fun _ => rfl) rfl rfl (fun _ => by kernel_rfl),
    trivial⟩ (fun L3 w4 hp4 => ?_)
  refine k6 _ _ ?_
  refine wp_seq_k (fun K7 k7 => ?_)
  refine goes (ks := [.det (FV 1), .det (PV ⟨1, 0⟩), .alloc (PC 0), .store (.new 2) 0 (PC ⟨1, 0⟩) (PC ⟨1, 0⟩)]) (T := [0, 1, 0, 7]) (nt := 111) (nh := 4) (H := [((L0.b 0), PC x), ((L0.b 1), PC y), ((L0.b 2), PC z), ((L3.b 5), PC x.inv)]) (A := fun L => [PV x, PV y, PV z, .pointer (some ⟨(L0.b 0), 0, none⟩), .pointer (some ⟨(L0.b 1), 0, none⟩), .pointer (some ⟨(L0.b 2), 0, none⟩), .bool false, .pointer (some ⟨(L3.b 5), 0, none⟩), .int .i64 0, .pointer (some ⟨L.b 2, 0, none⟩), undef, undef, .bool true, .bool false, PV x, .bool true, .bool false, .bool false, PV y, .bool true, .bool false, .bool false, .bool false, PV z, .bool true, .bool false, .bool false, .tuple #[PV x.inv, .int .i64 0], PV x, .tuple #[PV x.inv, .int .i64 0], PV x.inv, .int .i64 0, FV 1, PV ⟨1, 0⟩, undef, undef, undef, undef, undef, undef, undef, undef, undef, undef, undef, undef, undef, undef, undef, undef, undef, undef, undef, undef, undef, undef, undef, undef, undef, undef, undef, undef, undef, undef, undef, undef, undef, undef, undef, undef, undef, undef, undef, undef, undef, undef, undef, undef, undef, undef, undef, undef, undef, undef, undef, undef, undef, undef, undef, undef, undef, undef, undef, undef, undef, undef, undef, undef, undef, undef, undef, undef, undef, undef, undef, undef, undef, undef, undef, undef, undef]) (H' := fun L => [((L0.b 0), PC x), ((L0.b 1), PC y), ((L0.b 2), PC z), ((L3.b 5), PC x.inv), (L.b 2, PC ⟨1, 0⟩)]) (by kernel_rfl) rfl rfl rfl (fun L => by kernel_rfl) (fun L => by kernel_rfl) hp4 ⟨
    ob_build (qs := #[(0, .int .u64 1)]) (fun _ => rfl) rfl rfl (fun _ => by kernel_rfl) buildF1,
    ob_build (qs := #[(0, FV 1)]) (fun _ => rfl) rfl rfl (fun _ => by kernel_rfl) (buildPa _),
    ob_alloc (v := PV 0) (fun _ => rfl) rfl rfl zeroP rfl,
    ob_store (old := PC 0) (fun _ => rfl) rfl rfl (fun _ => by kernel_rfl) (fun _ => by kernel_rfl) rfl (sizePC _) (PC_one _) (le_len (PC_len _) (PC_len _) (by decide)) (splice_all ((PC_len _).trans (PC_len _).symm)).symm,
    trivial⟩ (fun L4 w5 hp5 => ?_)
  refine k7 _ _ ?_
  refine wp_seq_k (fun K8 k8 => ?_)
  refine draws (by kernel_rfl) (ks := [.det (PV x), .det (PV y), .det (PV (x + y)), .det (PV z), .det (PV ((x + y) * z)), .det (PV x), .det (PV z), .det (PV (x * z)), .det (PV y), .det (PV z), .det (PV (y * z)), .det (PV ((x * z) + (y * z))), .det (.bool true), .det (.bool true), .det (PV x), .det (PV y), .det (PV z), .det (PV (y * z)), .det (PV (x * (y * z))), .det (PV x), .det (PV y), .det (PV (x * y)), .det (PV z), .det (PV ((x * y) * z)), .det (.bool true), .det (.bool true), .det (.bool true), .det (PV x), .det (PV y), .det (PV (x * y)), .det (PV y), .det (PV x), .det (PV (y * x)), .det (.bool true), .det (.bool true), .det (.bool true)]) (T := [0, 0, 3, 0, 15, 0, 0, 127, 0, 0, 1023, 2047, 4095, 8191, 16383, 16383, 16383, 114687, 262143, 16383, 16383, 2097151, 16383, 8388607, 16777215, 33554431, 67108863, 134217727, 134217727, 536870911, 134217727, 134217727, 4294967295, 8589934591, 17179869183, 34359738367]) (nt := 111) (nh := 5) (H := [((L0.b 0), PC x), ((L0.b 1), PC y), ((L0.b 2), PC z), ((L3.b 5), PC x.inv), ((L4.b 2), PC ⟨1, 0⟩)]) (A := fun L => [PV x, PV y, PV z, .pointer (some ⟨(L0.b 0), 0, none⟩), .pointer (some ⟨(L0.b 1), 0, none⟩), .pointer (some ⟨(L0.b 2), 0, none⟩), .bool false, .pointer (some ⟨(L3.b 5), 0, none⟩), .int .i64 0, .pointer (some ⟨(L4.b 2), 0, none⟩), .bool true, undef, .bool true, .bool false, PV x, .bool true, .bool false, .bool false, PV y, .bool true, .bool false, .bool false, .bool false, PV z, .bool true, .bool false, .bool false, .tuple #[PV x.inv, .int .i64 0], PV x, .tuple #[PV x.inv, .int .i64 0], PV x.inv, .int .i64 0, FV 1, PV ⟨1, 0⟩, PV x, PV y, PV (x + y), PV z, PV ((x + y) * z), PV x, PV z, PV (x * z), PV y, PV z, PV (y * z), PV ((x * z) + (y * z)), .bool true, .bool true, PV x, PV y, PV z, PV (y * z), PV (x * (y * z)), PV x, PV y, PV (x * y), PV z, PV ((x * y) * z), .bool true, .bool true, .bool true, PV x, PV y, PV (x * y), PV y, PV x, PV (y * x), .bool true, .bool true, undef, undef, undef, undef, undef, undef, undef, undef, undef, undef, undef, undef, undef, undef, undef, undef, undef, undef, undef, undef, undef, undef, undef, undef, undef, undef, undef, undef, undef, undef, undef, undef, undef, undef, undef, undef, undef, undef, undef, undef, undef, undef]) (H' := fun L => [((L0.b 0), PC x), ((L0.b 1), PC y), ((L0.b 2), PC z), ((L3.b 5), PC x.inv), ((L4.b 2), PC ⟨1, 0⟩)]) (by kernel_rfl) rfl rfl rfl (fun L => by kernel_rfl) (fun L => by kernel_rfl) hp5 ⟨
    ob_load (b := (L0.b 0)) (off := 0) (cs := PC x) (by kernel_rfl) (fun _ => rfl) rfl rfl (fun _ => by kernel_rfl) (fun _ _ hs => (seen_at (k := 0) hs rfl).cells) Tryd.underlying26 rfl (sizePC _),
    ob_load (b := (L0.b 1)) (off := 0) (cs := PC y) (by kernel_rfl) (fun _ => rfl) rfl rfl (fun _ => by kernel_rfl) (fun _ _ hs => (seen_at (k := 1) hs rfl).cells) Tryd.underlying26 rfl (sizePC _),
    ob_call (vs := #[PV x, PV y]) (by kernel_rfl) (by kernel_rfl) (fun _ => rfl) rfl rfl (fun _ => by kernel_rfl) (fun w hb _ => fp2Add K _ _ w (K.stay hg hb)),
    ob_load (b := (L0.b 2)) (off := 0) (cs := PC z) (by kernel_rfl) (fun _ => rfl) rfl rfl (fun _ => by kernel_rfl) (fun _ _ hs => (seen_at (k := 2) hs rfl).cells) Tryd.underlying26 rfl (sizePC _),
    ob_call (vs := #[PV (x + y), PV z]) (by kernel_rfl) (by kernel_rfl) (fun _ => rfl) rfl rfl (fun _ => by kernel_rfl) (fun w hb _ => fp2Mul K _ _ w (K.stay hg hb)),
    ob_load (b := (L0.b 0)) (off := 0) (cs := PC x) (by kernel_rfl) (fun _ => rfl) rfl rfl (fun _ => by kernel_rfl) (fun _ _ hs => (seen_at (k := 0) hs rfl).cells) Tryd.underlying26 rfl (sizePC _),
    ob_load (b := (L0.b 2)) (off := 0) (cs := PC z) (by kernel_rfl) (fun _ => rfl) rfl rfl (fun _ => by kernel_rfl) (fun _ _ hs => (seen_at (k := 2) hs rfl).cells) Tryd.underlying26 rfl (sizePC _),
    ob_call (vs := #[PV x, PV z]) (by kernel_rfl) (by kernel_rfl) (fun _ => rfl) rfl rfl (fun _ => by kernel_rfl) (fun w hb _ => fp2Mul K _ _ w (K.stay hg hb)),
    ob_load (b := (L0.b 1)) (off := 0) (cs := PC y) (by kernel_rfl) (fun _ => rfl) rfl rfl (fun _ => by kernel_rfl) (fun _ _ hs => (seen_at (k := 1) hs rfl).cells) Tryd.underlying26 rfl (sizePC _),
    ob_load (b := (L0.b 2)) (off := 0) (cs := PC z) (by kernel_rfl) (fun _ => rfl) rfl rfl (fun _ => by kernel_rfl) (fun _ _ hs => (seen_at (k := 2) hs rfl).cells) Tryd.underlying26 rfl (sizePC _),
    ob_call (vs := #[PV y, PV z]) (by kernel_rfl) (by kernel_rfl) (fun _ => rfl) rfl rfl (fun _ => by kernel_rfl) (fun w hb _ => fp2Mul K _ _ w (K.stay hg hb)),
    ob_call (vs := #[PV (x * z), PV (y * z)]) (by kernel_rfl) (by kernel_rfl) (fun _ => rfl) rfl rfl (fun _ => by kernel_rfl) (fun w hb _ => fp2Add K _ _ w (K.stay hg hb)),
    ob_eq (u := PV ((x + y) * z)) (v := PV ((x * z) + (y * z))) (fun _ => rfl) rfl rfl (fun _ => by kernel_rfl) (fun _ => by kernel_rfl) (fun w => guardP _ _ _ _ _ w) (fun w => (eqlP _ _ w).trans (by rw [decide_eq_true (F2.add_mul' x y z)]; try rfl)),
    ob_move (fun _ => rfl) rfl rfl (fun _ => by kernel_rfl),
    ob_load (b := (L0.b 0)) (off := 0) (cs := PC x) (by kernel_rfl) (fun _ => by kernel_rfl) rfl rfl (fun _ => by kernel_rfl) (fun _ _ hs => (seen_at (k := 0) hs rfl).cells) Tryd.underlying26 rfl (sizePC _),
    ob_load (b := (L0.b 1)) (off := 0) (cs := PC y) (by kernel_rfl) (fun _ => by kernel_rfl) rfl rfl (fun _ => by kernel_rfl) (fun _ _ hs => (seen_at (k := 1) hs rfl).cells) Tryd.underlying26 rfl (sizePC _),
    ob_load (b := (L0.b 2)) (off := 0) (cs := PC z) (by kernel_rfl) (fun _ => by kernel_rfl) rfl rfl (fun _ => by kernel_rfl) (fun _ _ hs => (seen_at (k := 2) hs rfl).cells) Tryd.underlying26 rfl (sizePC _),
    ob_call (vs := #[PV y, PV z]) (by kernel_rfl) (by kernel_rfl) (fun _ => by kernel_rfl) rfl rfl (fun _ => by kernel_rfl) (fun w hb _ => fp2Mul K _ _ w (K.stay hg hb)),
    ob_call (vs := #[PV x, PV (y * z)]) (by kernel_rfl) (by kernel_rfl) (fun _ => by kernel_rfl) rfl rfl (fun _ => by kernel_rfl) (fun w hb _ => fp2Mul K _ _ w (K.stay hg hb)),
    ob_load (b := (L0.b 0)) (off := 0) (cs := PC x) (by kernel_rfl) (fun _ => by kernel_rfl) rfl rfl (fun _ => by kernel_rfl) (fun _ _ hs => (seen_at (k := 0) hs rfl).cells) Tryd.underlying26 rfl (sizePC _),
    ob_load (b := (L0.b 1)) (off := 0) (cs := PC y) (by kernel_rfl) (fun _ => by kernel_rfl) rfl rfl (fun _ => by kernel_rfl) (fun _ _ hs => (seen_at (k := 1) hs rfl).cells) Tryd.underlying26 rfl (sizePC _),
    ob_call (vs := #[PV x, PV y]) (by kernel_rfl) (by kernel_rfl) (fun _ => by kernel_rfl) rfl rfl (fun _ => by kernel_rfl) (fun w hb _ => fp2Mul K _ _ w (K.stay hg hb)),
    ob_load (b := (L0.b 2)) (off := 0) (cs := PC z) (by kernel_rfl) (fun _ => by kernel_rfl) rfl rfl (fun _ => by kernel_rfl) (fun _ _ hs => (seen_at (k := 2) hs rfl).cells) Tryd.underlying26 rfl (sizePC _),
    ob_call (vs := #[PV (x * y), PV z]) (by kernel_rfl) (by kernel_rfl) (fun _ => by kernel_rfl) rfl rfl (fun _ => by kernel_rfl) (fun w hb _ => fp2Mul K _ _ w (K.stay hg hb)),
    ob_eq (u := PV (x * (y * z))) (v := PV ((x * y) * z)) (fun _ => by kernel_rfl) rfl rfl (fun _ => by kernel_rfl) (fun _ => by kernel_rfl) (fun w => guardP _ _ _ _ _ w) (fun w => (eqlP _ _ w).trans (by rw [decide_eq_true (F2.mul_assoc' x y z)]; try rfl)),
    ob_pickT (fun _ => rfl) rfl rfl (fun _ => by kernel_rfl) (fun _ => by kernel_rfl),
    ob_move (fun _ => rfl) rfl rfl (fun _ => by kernel_rfl),
    ob_load (b := (L0.b 0)) (off := 0) (cs := PC x) (by kernel_rfl) (fun _ => by kernel_rfl) rfl rfl (fun _ => by kernel_rfl) (fun _ _ hs => (seen_at (k := 0) hs rfl).cells) Tryd.underlying26 rfl (sizePC _),
    ob_load (b := (L0.b 1)) (off := 0) (cs := PC y) (by kernel_rfl) (fun _ => by kernel_rfl) rfl rfl (fun _ => by kernel_rfl) (fun _ _ hs => (seen_at (k := 1) hs rfl).cells) Tryd.underlying26 rfl (sizePC _),
    ob_call (vs := #[PV x, PV y]) (by kernel_rfl) (by kernel_rfl) (fun _ => by kernel_rfl) rfl rfl (fun _ => by kernel_rfl) (fun w hb _ => fp2Mul K _ _ w (K.stay hg hb)),
    ob_load (b := (L0.b 1)) (off := 0) (cs := PC y) (by kernel_rfl) (fun _ => by kernel_rfl) rfl rfl (fun _ => by kernel_rfl) (fun _ _ hs => (seen_at (k := 1) hs rfl).cells) Tryd.underlying26 rfl (sizePC _),
    ob_load (b := (L0.b 0)) (off := 0) (cs := PC x) (by kernel_rfl) (fun _ => by kernel_rfl) rfl rfl (fun _ => by kernel_rfl) (fun _ _ hs => (seen_at (k := 0) hs rfl).cells) Tryd.underlying26 rfl (sizePC _),
    ob_call (vs := #[PV y, PV x]) (by kernel_rfl) (by kernel_rfl) (fun _ => by kernel_rfl) rfl rfl (fun _ => by kernel_rfl) (fun w hb _ => fp2Mul K _ _ w (K.stay hg hb)),
    ob_eq (u := PV (x * y)) (v := PV (y * x)) (fun _ => by kernel_rfl) rfl rfl (fun _ => by kernel_rfl) (fun _ => by kernel_rfl) (fun w => guardP _ _ _ _ _ w) (fun w => (eqlP _ _ w).trans (by rw [decide_eq_true (F2.mul_comm' x y)]; try rfl)),
    ob_pickT (fun _ => rfl) rfl rfl (fun _ => by kernel_rfl) (fun _ => by kernel_rfl),
    ob_assign (fun _ => rfl) rfl rfl (fun _ => by kernel_rfl),
    trivial⟩ (fun L5 w6 hp6 => ?_)
  refine k8 _ _ ?_
  refine wp_seq_k (fun K9 k9 => ?_)
  refine draws (by kernel_rfl) (ks := [.det (PV x), .det (PV y), .det (PV (x * y)), .det (PV ((x * y).conj)), .det (PV x), .det (PV x.conj), .det (PV y), .det (PV y.conj), .det (PV (x.conj * y.conj)), .det (.bool true), .det (.bool true), .det (PV x), .any (isP), .det (PV x.conj), .det (PV x), .det (PV x.conj), .det (.bool true), .det (.bool true), .det (.bool true)]) (T := [0, 0, 3, 7, 0, 31, 0, 127, 255, 511, 1023, 2047, 2047, 8191, 2047, 32767, 65535, 131071, 262143]) (nt := 111) (nh := 5) (H := [((L0.b 0), PC x), ((L0.b 1), PC y), ((L0.b 2), PC z), ((L3.b 5), PC x.inv), ((L4.b 2), PC ⟨1, 0⟩)]) (A := fun L => [PV x, PV y, PV z, .pointer (some ⟨(L0.b 0), 0, none⟩), .pointer (some ⟨(L0.b 1), 0, none⟩), .pointer (some ⟨(L0.b 2), 0, none⟩), .bool false, .pointer (some ⟨(L3.b 5), 0, none⟩), .int .i64 0, .pointer (some ⟨(L4.b 2), 0, none⟩), .bool true, .bool true, .bool true, .bool false, PV x, .bool true, .bool false, .bool false, PV y, .bool true, .bool false, .bool false, .bool false, PV z, .bool true, .bool false, .bool false, .tuple #[PV x.inv, .int .i64 0], PV x, .tuple #[PV x.inv, .int .i64 0], PV x.inv, .int .i64 0, FV 1, PV ⟨1, 0⟩, PV x, PV y, PV (x + y), PV z, PV ((x + y) * z), PV x, PV z, PV (x * z), PV y, PV z, PV (y * z), PV ((x * z) + (y * z)), .bool true, .bool true, PV x, PV y, PV z, PV (y * z), PV (x * (y * z)), PV x, PV y, PV (x * y), PV z, PV ((x * y) * z), .bool true, .bool true, .bool true, PV x, PV y, PV (x * y), PV y, PV x, PV (y * x), .bool true, .bool true, PV x, PV y, PV (x * y), PV ((x * y).conj), PV x, PV x.conj, PV y, PV y.conj, PV (x.conj * y.conj), .bool true, .bool true, PV x, L.v 12, PV x.conj, PV x, PV x.conj, .bool true, .bool true, undef, undef, undef, undef, undef, undef, undef, undef, undef, undef, undef, undef, undef, undef, undef, undef, undef, undef, undef, undef, undef, undef, undef, undef]) (H' := fun L => [((L0.b 0), PC x), ((L0.b 1), PC y), ((L0.b 2), PC z), ((L3.b 5), PC x.inv), ((L4.b 2), PC ⟨1, 0⟩)]) (by kernel_rfl) rfl rfl rfl (fun L => by kernel_rfl) (fun L => by kernel_rfl) hp6 ⟨
    ob_load (b := (L0.b 0)) (off := 0) (cs := PC x) (by kernel_rfl) (fun _ => rfl) rfl rfl (fun _ => by kernel_rfl) (fun _ _ hs => (seen_at (k := 0) hs rfl).cells) Tryd.underlying26 rfl (sizePC _),
    ob_load (b := (L0.b 1)) (off := 0) (cs := PC y) (by kernel_rfl) (fun _ => rfl) rfl rfl (fun _ => by kernel_rfl) (fun _ _ hs => (seen_at (k := 1) hs rfl).cells) Tryd.underlying26 rfl (sizePC _),
    ob_call (vs := #[PV x, PV y]) (by kernel_rfl) (by kernel_rfl) (fun _ => rfl) rfl rfl (fun _ => by kernel_rfl) (fun w hb _ => fp2Mul K _ _ w (K.stay hg hb)),
    ob_call (vs := #[PV (x * y)]) (by kernel_rfl) (by kernel_rfl) (fun _ => rfl) rfl rfl (fun _ => by kernel_rfl) (fun w hb _ => fp2Conj K _ w (K.stay hg hb)),
    ob_load (b := (L0.b 0)) (off := 0) (cs := PC x) (by kernel_rfl) (fun _ => rfl) rfl rfl (fun _ => by kernel_rfl) (fun _ _ hs => (seen_at (k := 0) hs rfl).cells) Tryd.underlying26 rfl (sizePC _),
    ob_call (vs := #[PV x]) (by kernel_rfl) (by kernel_rfl) (fun _ => rfl) rfl rfl (fun _ => by kernel_rfl) (fun w hb _ => fp2Conj K _ w (K.stay hg hb)),
    ob_load (b := (L0.b 1)) (off := 0) (cs := PC y) (by kernel_rfl) (fun _ => rfl) rfl rfl (fun _ => by kernel_rfl) (fun _ _ hs => (seen_at (k := 1) hs rfl).cells) Tryd.underlying26 rfl (sizePC _),
    ob_call (vs := #[PV y]) (by kernel_rfl) (by kernel_rfl) (fun _ => rfl) rfl rfl (fun _ => by kernel_rfl) (fun w hb _ => fp2Conj K _ w (K.stay hg hb)),
    ob_call (vs := #[PV x.conj, PV y.conj]) (by kernel_rfl) (by kernel_rfl) (fun _ => rfl) rfl rfl (fun _ => by kernel_rfl) (fun w hb _ => fp2Mul K _ _ w (K.stay hg hb)),
    ob_eq (u := PV ((x * y).conj)) (v := PV (x.conj * y.conj)) (fun _ => rfl) rfl rfl (fun _ => by kernel_rfl) (fun _ => by kernel_rfl) (fun w => guardP _ _ _ _ _ w) (fun w => (eqlP _ _ w).trans (by rw [decide_eq_true (F2.conj_mul' x y)]; try rfl)),
    ob_move (fun _ => rfl) rfl rfl (fun _ => by kernel_rfl),
    ob_load (b := (L0.b 0)) (off := 0) (cs := PC x) (by kernel_rfl) (fun _ => by kernel_rfl) rfl rfl (fun _ => by kernel_rfl) (fun _ _ hs => (seen_at (k := 0) hs rfl).cells) Tryd.underlying26 rfl (sizePC _),
    ob_any (vs := fun _ => #[]) (by kernel_rfl) (by kernel_rfl) (fun _ => by kernel_rfl) rfl rfl (fun _ => by kernel_rfl) (fun _ _ _ h hb => h.stay hb) (fun _ w _ => newP w),
    ob_callS (vs := fun L => #[PV x, L.v 12]) (by kernel_rfl) (by kernel_rfl) (fun _ => by kernel_rfl) rfl rfl (fun _ => by kernel_rfl) (fun L w hs => powP K x _ w (K.stay hg hs.bel) (hs.any 12 _ rfl rfl)),
    ob_load (b := (L0.b 0)) (off := 0) (cs := PC x) (by kernel_rfl) (fun _ => by kernel_rfl) rfl rfl (fun _ => by kernel_rfl) (fun _ _ hs => (seen_at (k := 0) hs rfl).cells) Tryd.underlying26 rfl (sizePC _),
    ob_call (vs := #[PV x]) (by kernel_rfl) (by kernel_rfl) (fun _ => by kernel_rfl) rfl rfl (fun _ => by kernel_rfl) (fun w hb _ => fp2Conj K _ w (K.stay hg hb)),
    ob_eq (u := PV x.conj) (v := PV x.conj) (fun _ => by kernel_rfl) rfl rfl (fun _ => by kernel_rfl) (fun _ => by kernel_rfl) (fun w => guardP _ _ _ _ _ w) (fun w => (eqlP _ _ w).trans (by rw [decide_eq_true (rfl)]; try rfl)),
    ob_pickT (fun _ => rfl) rfl rfl (fun _ => by kernel_rfl) (fun _ => by kernel_rfl),
    ob_assign (fun _ => rfl) rfl rfl (fun _ => by kernel_rfl),
    trivial⟩ (fun L6 w7 hp7 => ?_)
  refine k9 _ _ ?_
  refine wp_seq_k (fun K10 k10 => ?_)
  refine draws (by kernel_rfl) (ks := [.det (.bool true), .det (.bool true), .det (.bool true), .det (.bool true), .det (.bool true), .det (PV x), .det (PV 0), .det (.bool false), .det (.bool false), .det undef, .det undef, .det (.bool false), .det (.bool false), .det (.int .i64 0), .det (.bool true), .det (.bool true), .det (PV x), .det (PV x.inv), .det (PV (x * x.inv)), .det (PV ⟨1, 0⟩), .det (.bool true), .det (.bool true), .det (.bool true), .det (.bool true), .det (.bool true)]) (T := [0, 1, 3, 7, 15, 31, 31, 127, 255, 511, 1023, 2047, 4095, 8191, 16383, 32767, 65535, 65535, 262143, 65535, 1048575, 2097151, 4194303, 8388607, 16777215]) (nt := 111) (nh := 5) (H := [((L0.b 0), PC x), ((L0.b 1), PC y), ((L0.b 2), PC z), ((L3.b 5), PC x.inv), ((L4.b 2), PC ⟨1, 0⟩)]) (A := fun L => [PV x, PV y, PV z, .pointer (some ⟨(L0.b 0), 0, none⟩), .pointer (some ⟨(L0.b 1), 0, none⟩), .pointer (some ⟨(L0.b 2), 0, none⟩), .bool true, .pointer (some ⟨(L3.b 5), 0, none⟩), .int .i64 0, .pointer (some ⟨(L4.b 2), 0, none⟩), .bool true, .bool true, .bool true, .bool false, PV x, .bool true, .bool false, .bool false, PV y, .bool true, .bool false, .bool false, .bool false, PV z, .bool true, .bool false, .bool false, .tuple #[PV x.inv, .int .i64 0], PV x, .tuple #[PV x.inv, .int .i64 0], PV x.inv, .int .i64 0, FV 1, PV ⟨1, 0⟩, PV x, PV y, PV (x + y), PV z, PV ((x + y) * z), PV x, PV z, PV (x * z), PV y, PV z, PV (y * z), PV ((x * z) + (y * z)), .bool true, .bool true, PV x, PV y, PV z, PV (y * z), PV (x * (y * z)), PV x, PV y, PV (x * y), PV z, PV ((x * y) * z), .bool true, .bool true, .bool true, PV x, PV y, PV (x * y), PV y, PV x, PV (y * x), .bool true, .bool true, PV x, PV y, PV (x * y), PV ((x * y).conj), PV x, PV x.conj, PV y, PV y.conj, PV (x.conj * y.conj), .bool true, .bool true, PV x, (L6.v 12), PV x.conj, PV x, PV x.conj, .bool true, .bool true, .bool true, .bool true, .bool true, .bool true, .bool true, PV x, PV 0, .bool false, .bool false, undef, undef, .bool false, .bool false, .int .i64 0, .bool true, .bool true, PV x, PV x.inv, PV (x * x.inv), PV ⟨1, 0⟩, .bool true, .bool true, .bool true, .bool true]) (H' := fun L => [((L0.b 0), PC x), ((L0.b 1), PC y), ((L0.b 2), PC z), ((L3.b 5), PC x.inv), ((L4.b 2), PC ⟨1, 0⟩)]) (by kernel_rfl) rfl rfl rfl (fun L => by kernel_rfl) (fun L => by kernel_rfl) hp7 ⟨
    ob_move (fun _ => rfl) rfl rfl (fun _ => by kernel_rfl),
    ob_move (fun _ => rfl) rfl rfl (fun _ => by kernel_rfl),
    ob_move (fun _ => by kernel_rfl) rfl rfl (fun _ => by kernel_rfl),
    ob_pickT (fun _ => rfl) rfl rfl (fun _ => by kernel_rfl) (fun _ => by kernel_rfl),
    ob_move (fun _ => rfl) rfl rfl (fun _ => by kernel_rfl),
    ob_load (b := (L0.b 0)) (off := 0) (cs := PC x) (by kernel_rfl) (fun _ => by kernel_rfl) rfl rfl (fun _ => by kernel_rfl) (fun _ _ hs => (seen_at (k := 0) hs rfl).cells) Tryd.underlying26 rfl (sizePC _),
    ob_build (qs := #[]) (fun _ => by kernel_rfl) rfl rfl (fun _ => by kernel_rfl) buildP0,
    ob_eq (u := PV x) (v := PV 0) (fun _ => by kernel_rfl) rfl rfl (fun _ => by kernel_rfl) (fun _ => by kernel_rfl) (fun w => guardP _ _ _ _ _ w) (fun w => (eqlP _ _ w).trans (by rw [decide_eq_false (hx)]; try rfl)),
    ob_move (fun _ => by kernel_rfl) rfl rfl (fun _ => by kernel_rfl),
    ob_skip (fun _ => by kernel_rfl) rfl,
    ob_skip (fun _ => by kernel_rfl) rfl,
    ob_pickF (fun _ => by kernel_rfl) rfl rfl (fun _ => by kernel_rfl) (fun _ => by kernel_rfl),
    ob_move (fun _ => by kernel_rfl) rfl rfl (fun _ => by kernel_rfl),
    ob_move (fun _ => by kernel_rfl) rfl rfl (fun _ => by kernel_rfl),
    ob_eq (u := .int .i64 0) (v := .int .i64 0) (fun _ => by kernel_rfl) rfl rfl (fun _ => by kernel_rfl) (fun _ => by kernel_rfl) (fun w => guardI _ _ _ _ _ _ _ _ w) (fun w => (eqlI _ _ _ _ w).trans rfl),
    ob_move (fun _ => by kernel_rfl) rfl rfl (fun _ => by kernel_rfl),
    ob_load (b := (L0.b 0)) (off := 0) (cs := PC x) (by kernel_rfl) (fun _ => by kernel_rfl) rfl rfl (fun _ => by kernel_rfl) (fun _ _ hs => (seen_at (k := 0) hs rfl).cells) Tryd.underlying26 rfl (sizePC _),
    ob_load (b := (L3.b 5)) (off := 0) (cs := PC x.inv) (by kernel_rfl) (fun _ => by kernel_rfl) rfl rfl (fun _ => by kernel_rfl) (fun _ _ hs => (seen_at (k := 3) hs rfl).cells) Tryd.underlying26 rfl (sizePC _),
    ob_call (vs := #[PV x, PV x.inv]) (by kernel_rfl) (by kernel_rfl) (fun _ => by kernel_rfl) rfl rfl (fun _ => by kernel_rfl) (fun w hb _ => fp2Mul K _ _ w (K.stay hg hb)),
    ob_load (b := (L4.b 2)) (off := 0) (cs := PC ⟨1, 0⟩) (by kernel_rfl) (fun _ => by kernel_rfl) rfl rfl (fun _ => by kernel_rfl) (fun _ _ hs => (seen_at (k := 4) hs rfl).cells) Tryd.underlying26 rfl (sizePC _),
    ob_eq (u := PV (x * x.inv)) (v := PV ⟨1, 0⟩) (fun _ => by kernel_rfl) rfl rfl (fun _ => by kernel_rfl) (fun _ => by kernel_rfl) (fun w => guardP _ _ _ _ _ w) (fun w => (eqlP _ _ w).trans (by rw [decide_eq_true (show x * x.inv = ⟨1, 0⟩ from F2.inv_mul hx)]; try rfl)),
    ob_pickT (fun _ => by kernel_rfl) rfl rfl (fun _ => by kernel_rfl) (fun _ => by kernel_rfl),
    ob_pickF (fun _ => by kernel_rfl) rfl rfl (fun _ => by kernel_rfl) (fun _ => by kernel_rfl),
    ob_pickT (fun _ => rfl) rfl rfl (fun _ => by kernel_rfl) (fun _ => by kernel_rfl),
    ob_assign (fun _ => rfl) rfl rfl (fun _ => by kernel_rfl),
    trivial⟩ (fun L7 w8 hp8 => ?_)
  refine k10 _ _ ?_
  refine wp_ret ?_
  exact bodyPost_ret (v := .bool true) (res_t rfl (by kernel_rfl) _) rfl ⟨rfl, hp8.bel⟩
/-- What Fp2Field answers. -/
theorem fp2Field_walk {G : World → Prop} (K : FpK G) (R : RefK) (hH : ∀ w, G w → w.rangeAt 2 0 (FC hf)) (f g f2 g2 f3 g3 : Nat → Int) (rf : Rg f 6) (rg : Rg g 6) (rf2 : Rg f2 6) (rg2 : Rg g2 6) (rf3 : Rg f3 6) (rg3 : Rg g3 6) (w : World) (hg : G w) :
    Calls Tryd.prog 5 #[QV2 f g, QV2 f2 g2, QV2 f3 g3] w (Ret (.bool true) w) := by
  have hB := fun w hg => begun5 K w hg hH
  have may : ∀ f g : Nat → Int, Rg f 6 → Rg g 6 → (∃ x : F2, QV2 f g = PV x) ∧ (∀ w, G w → Calls Tryd.prog 8 #[QV2 f g] w (Ret (.bool true) w)) ∨ (∀ w, G w → Calls Tryd.prog 8 #[QV2 f g] w (Ret (.bool false) w)) := fun f g rf rg => by
    by_cases lf : val f 6 < RI
    · by_cases lg : val g 6 < RI
      · obtain ⟨a, ha, -⟩ := num_of rf lf
        obtain ⟨b, hb, -⟩ := num_of rg lg
        exact .inl ⟨⟨⟨a, b⟩, QV2_of (x := ⟨a, b⟩) ha hb⟩, fun w _ => ref5May2 R f g w rf rg lf lg⟩
      · exact .inr fun w _ => ref5May21 R f g w rf rg lf lg
    · exact .inr fun w _ => ref5May20 R f g w rf lf
  rcases may f g rf rg with ⟨⟨x, hx⟩, h1⟩ | h1
  · rcases may f2 g2 rf2 rg2 with ⟨⟨y, hy⟩, h2⟩ | h2
    · rcases may f3 g3 rf3 rg3 with ⟨⟨z, hz⟩, h3⟩ | h3
      · rw [hx, hy, hz]
        by_cases h0 : x = 0
        · exact field3 K R x y z w hg hB h0
        · exact field4 K R x y z w hg hB h0
      · exact field2 K R f g f2 g2 f3 g3 w hg hB h1 h2 h3
    · exact field1 K R f g f2 g2 f3 g3 w hg hB h1 h2
  · exact field0 K R f g f2 g2 f3 g3 w hg hB h1
end Go.Proofs.YtgoghcmnnhglhaaDoor.fpn
