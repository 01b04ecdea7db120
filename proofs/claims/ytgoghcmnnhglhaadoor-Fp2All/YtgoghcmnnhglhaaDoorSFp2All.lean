/- Fp2AllWalk. -/
import Derived.Test.YtgoghcmnnhglhaaDoorGH
/- Fp2All walked. -/
namespace Go.Proofs.YtgoghcmnnhglhaaDoor.fpn
open Go.RowKit Pl
set_option linter.unusedVariables false
set_option linter.unusedSimpArgs false
set_option maxRecDepth 4000

set_option maxHeartbeats 4000000 in
theorem all0 {G : World → Prop} (K : FpK G) (R : RefK) (f g f2 g2 : Nat → Int) (w : World) (hg : G w) (hB : ∀ w, G w → Calls Tryd.prog 7 #[] w (Ret (.bool true) w)) (hm : ∀ w, G w → Calls Tryd.prog 8 #[QV2 f g] w (Ret (.bool false) w)) (hm2 : ∀ w, G w → Calls Tryd.prog 9 #[QV2 f g] w (Ret (.bool false) w)) : Calls Tryd.prog 3 #[QV2 f g, QV2 f2 g2] w (Ret (.bool true) w) := by
  have hp0 := Heap.start w
  go_enter Tryd.func3, Tryd.ntmps3
  refine wp_seq_k (fun K1 k1 => ?_)
  refine goes (ks := [.alloc (QC2 f g), .alloc (QC2 f2 g2), .det (.bool false)]) (T := [0, 0, 0]) (nt := 94) (nh := 0) (H := []) (A := fun L => [QV2 f g, QV2 f2 g2, .pointer (some ⟨L.b 0, 0, none⟩), .pointer (some ⟨L.b 1, 0, none⟩), .bool false, undef, undef, undef, undef, undef, undef, undef, undef, undef, undef, undef, undef, undef, undef, undef, undef, undef, undef, undef, undef, undef, undef, undef, undef, undef, undef, undef, undef, undef, undef, undef, undef, undef, undef, undef, undef, undef, undef, undef, undef, undef, undef, undef, undef, undef, undef, undef, undef, undef, undef, undef, undef, undef, undef, undef, undef, undef, undef, undef, undef, undef, undef, undef, undef, undef, undef, undef, undef, undef, undef, undef, undef, undef, undef, undef, undef, undef, undef, undef, undef, undef, undef, undef, undef, undef, undef, undef, undef, undef]) (H' := fun L => [(L.b 0, QC2 f g), (L.b 1, QC2 f2 g2)]) (by kernel_rfl) rfl rfl rfl (fun L => by kernel_rfl) (fun L => by kernel_rfl) hp0 ⟨
    ob_box (v := QV2 f g) (fun _ => rfl) rfl rfl (fun _ => by kernel_rfl) rfl,
    ob_box (v := QV2 f2 g2) (fun _ => rfl) rfl rfl (fun _ => by kernel_rfl) rfl,
    ob_assign (fun _ => rfl) rfl rfl (fun _ => by kernel_rfl),
    trivial⟩ (fun L0 w1 hp1 => ?_)
  refine k1 _ _ ?_
  refine wp_seq_k (fun K2 k2 => ?_)
  refine wp_seq_k (fun K3 k3 => ?_)
  refine goes (ks := [.det (.bool true), .det (.bool false)]) (T := [0, 1]) (nt := 94) (nh := 2) (H := [((L0.b 0), QC2 f g), ((L0.b 1), QC2 f2 g2)]) (A := fun L => [QV2 f g, QV2 f2 g2, .pointer (some ⟨(L0.b 0), 0, none⟩), .pointer (some ⟨(L0.b 1), 0, none⟩), .bool false, undef, undef, undef, undef, .bool true, .bool false, undef, undef, undef, undef, undef, undef, undef, undef, undef, undef, undef, undef, undef, undef, undef, undef, undef, undef, undef, undef, undef, undef, undef, undef, undef, undef, undef, undef, undef, undef, undef, undef, undef, undef, undef, undef, undef, undef, undef, undef, undef, undef, undef, undef, undef, undef, undef, undef, undef, undef, undef, undef, undef, undef, undef, undef, undef, undef, undef, undef, undef, undef, undef, undef, undef, undef, undef, undef, undef, undef, undef, undef, undef, undef, undef, undef, undef, undef, undef, undef, undef, undef, undef]) (H' := fun L => [((L0.b 0), QC2 f g), ((L0.b 1), QC2 f2 g2)]) (by kernel_rfl) rfl rfl rfl (fun L => by kernel_rfl) (fun L => by kernel_rfl) hp1 ⟨
    ob_call (vs := #[]) (by kernel_rfl) (by kernel_rfl) (fun _ => rfl) rfl rfl (fun _ => by kernel_rfl) (fun w hb _ => hB w (K.stay hg hb)),
    ob_not (b := true) (fun _ => rfl) rfl rfl (fun _ => by kernel_rfl),
    trivial⟩ (fun L1 w2 hp2 => ?_)
  refine k3 _ _ ?_
  refine wp_cond_false (by kernel_rfl) ?_
  refine skips ?_
  refine k2 _ _ ?_
  refine wp_seq_k (fun K4 k4 => ?_)
  refine wp_seq_k (fun K5 k5 => ?_)
  refine goes (ks := [.det (QV2 f g), .det (.bool false), .det (.bool true), .det (.bool true), .det undef, .det undef, .det undef, .det (.bool true)]) (T := [0, 1, 3, 7, 15, 31, 63, 127]) (nt := 94) (nh := 2) (H := [((L0.b 0), QC2 f g), ((L0.b 1), QC2 f2 g2)]) (A := fun L => [QV2 f g, QV2 f2 g2, .pointer (some ⟨(L0.b 0), 0, none⟩), .pointer (some ⟨(L0.b 1), 0, none⟩), .bool false, undef, undef, undef, undef, .bool true, .bool false, QV2 f g, .bool false, .bool true, .bool true, undef, undef, undef, .bool true, undef, undef, undef, undef, undef, undef, undef, undef, undef, undef, undef, undef, undef, undef, undef, undef, undef, undef, undef, undef, undef, undef, undef, undef, undef, undef, undef, undef, undef, undef, undef, undef, undef, undef, undef, undef, undef, undef, undef, undef, undef, undef, undef, undef, undef, undef, undef, undef, undef, undef, undef, undef, undef, undef, undef, undef, undef, undef, undef, undef, undef, undef, undef, undef, undef, undef, undef, undef, undef, undef, undef, undef, undef, undef, undef]) (H' := fun L => [((L0.b 0), QC2 f g), ((L0.b 1), QC2 f2 g2)]) (by kernel_rfl) rfl rfl rfl (fun L => by kernel_rfl) (fun L => by kernel_rfl) hp2 ⟨
    ob_load (b := (L0.b 0)) (off := 0) (cs := QC2 f g) (by kernel_rfl) (fun _ => rfl) rfl rfl (fun _ => by kernel_rfl) (fun _ _ hs => (seen_at (k := 0) hs rfl).cells) Tryd.underlying26 rfl (sizeQC2 _ _),
    ob_call (vs := #[QV2 f g]) (by kernel_rfl) (by kernel_rfl) (fun _ => rfl) rfl rfl (fun _ => by kernel_rfl) (fun w hb _ => hm w (K.stay hg hb)),
    ob_not (b := false) (fun _ => rfl) rfl rfl (fun _ => by kernel_rfl),
    ob_move (fun _ => rfl) rfl rfl (fun _ => by kernel_rfl),
    ob_skip (fun _ => by kernel_rfl) rfl,
    ob_skip (fun _ => by kernel_rfl) rfl,
    ob_skip (fun _ => by kernel_rfl) rfl,
    ob_pickT (fun _ => rfl) rfl rfl (fun _ => by kernel_rfl) (fun _ => by kernel_rfl),
    trivial⟩ (fun L2 w3 hp3 => ?_)
  refine k5 _ _ ?_
  refine wp_cond_true (by kernel_rfl) ?_
  refine wp_seq_k (fun K6 k6 => ?_)
  refine draws (by kernel_rfl) (ks := [.det (QV2 f g), .det (.bool false), .det (QV2 f g), .det (.bool false), .det (.bool true), .det (.bool true)]) (T := [0, 1, 0, 7, 15, 31]) (nt := 94) (nh := 2) (H := [((L0.b 0), QC2 f g), ((L0.b 1), QC2 f2 g2)]) (A := fun L => [QV2 f g, QV2 f2 g2, .pointer (some ⟨(L0.b 0), 0, none⟩), .pointer (some ⟨(L0.b 1), 0, none⟩), .bool true, undef, undef, undef, undef, .bool true, .bool false, QV2 f g, .bool false, .bool true, .bool true, undef, undef, undef, .bool true, QV2 f g, .bool false, QV2 f g, .bool false, .bool true, undef, undef, undef, undef, undef, undef, undef, undef, undef, undef, undef, undef, undef, undef, undef, undef, undef, undef, undef, undef, undef, undef, undef, undef, undef, undef, undef, undef, undef, undef, undef, undef, undef, undef, undef, undef, undef, undef, undef, undef, undef, undef, undef, undef, undef, undef, undef, undef, undef, undef, undef, undef, undef, undef, undef, undef, undef, undef, undef, undef, undef, undef, undef, undef, undef, undef, undef, undef, undef, undef]) (H' := fun L => [((L0.b 0), QC2 f g), ((L0.b 1), QC2 f2 g2)]) (by kernel_rfl) rfl rfl rfl (fun L => by kernel_rfl) (fun L => by kernel_rfl) hp3 ⟨
    ob_load (b := (L0.b 0)) (off := 0) (cs := QC2 f g) (by kernel_rfl) (fun _ => rfl) rfl rfl (fun _ => by kernel_rfl) (fun _ _ hs => (seen_at (k := 0) hs rfl).cells) Tryd.underlying26 rfl (sizeQC2 _ _),
    ob_call (vs := #[QV2 f g]) (by kernel_rfl) (by kernel_rfl) (fun _ => rfl) rfl rfl (fun _ => by kernel_rfl) (fun w hb _ => hm2 w (K.stay hg hb)),
    ob_load (b := (L0.b 0)) (off := 0) (cs := QC2 f g) (by kernel_rfl) (fun _ => rfl) rfl rfl (fun _ => by kernel_rfl) (fun _ _ hs => (seen_at (k := 0) hs rfl).cells) Tryd.underlying26 rfl (sizeQC2 _ _),
    ob_call (vs := #[QV2 f g]) (by kernel_rfl) (by kernel_rfl) (fun _ => rfl) rfl rfl (fun _ => by kernel_rfl) (fun w hb _ => hm w (K.stay hg hb)),
    ob_eq (u := .bool false) (v := .bool false) (fun _ => rfl) rfl rfl (fun _ => by kernel_rfl) (fun _ => by kernel_rfl) (fun w => guardB _ _ _ _ _ _ w) (fun w => (eqlB _ _ w).trans rfl),
    ob_assign (fun _ => rfl) rfl rfl (fun _ => by kernel_rfl),
    trivial⟩ (fun L3 w4 hp4 => ?_)
  refine k6 _ _ ?_
  refine wp_ret ?_
  exact bodyPost_ret (v := .bool true) (res_t rfl (by kernel_rfl) _) rfl ⟨rfl, hp4.bel⟩
set_option maxHeartbeats 4000000 in
theorem all1 {G : World → Prop} (K : FpK G) (R : RefK) (f g f2 g2 : Nat → Int) (w : World) (hg : G w) (hB : ∀ w, G w → Calls Tryd.prog 7 #[] w (Ret (.bool true) w)) (hm : ∀ w, G w → Calls Tryd.prog 8 #[QV2 f g] w (Ret (.bool true) w)) (hm2 : ∀ w, G w → Calls Tryd.prog 9 #[QV2 f g] w (Ret (.bool true) w)) (hn : ∀ w, G w → Calls Tryd.prog 8 #[QV2 f2 g2] w (Ret (.bool false) w)) : Calls Tryd.prog 3 #[QV2 f g, QV2 f2 g2] w (Ret (.bool true) w) := by
  have hp0 := Heap.start w
  go_enter Tryd.func3, Tryd.ntmps3
  refine wp_seq_k (fun K1 k1 => ?_)
  refine goes (ks := [.alloc (QC2 f g), .alloc (QC2 f2 g2), .det (.bool false)]) (T := [0, 0, 0]) (nt := 94) (nh := 0) (H := []) (A := fun L => [QV2 f g, QV2 f2 g2, .pointer (some ⟨L.b 0, 0, none⟩), .pointer (some ⟨L.b 1, 0, none⟩), .bool false, undef, undef, undef, undef, undef, undef, undef, undef, undef, undef, undef, undef, undef, undef, undef, undef, undef, undef, undef, undef, undef, undef, undef, undef, undef, undef, undef, undef, undef, undef, undef, undef, undef, undef, undef, undef, undef, undef, undef, undef, undef, undef, undef, undef, undef, undef, undef, undef, undef, undef, undef, undef, undef, undef, undef, undef, undef, undef, undef, undef, undef, undef, undef, undef, undef, undef, undef, undef, undef, undef, undef, undef, undef, undef, undef, undef, undef, undef, undef, undef, undef, undef, undef, undef, undef, undef, undef, undef, undef]) (H' := fun L => [(L.b 0, QC2 f g), (L.b 1, QC2 f2 g2)]) (by kernel_rfl) rfl rfl rfl (fun L => by kernel_rfl) (fun L => by kernel_rfl) hp0 ⟨
    ob_box (v := QV2 f g) (fun _ => rfl) rfl rfl (fun _ => by kernel_rfl) rfl,
    ob_box (v := QV2 f2 g2) (fun _ => rfl) rfl rfl (fun _ => by kernel_rfl) rfl,
    ob_assign (fun _ => rfl) rfl rfl (fun _ => by kernel_rfl),
    trivial⟩ (fun L0 w1 hp1 => ?_)
  refine k1 _ _ ?_
  refine wp_seq_k (fun K2 k2 => ?_)
  refine wp_seq_k (fun K3 k3 => ?_)
  refine goes (ks := [.det (.bool true), .det (.bool false)]) (T := [0, 1]) (nt := 94) (nh := 2) (H := [((L0.b 0), QC2 f g), ((L0.b 1), QC2 f2 g2)]) (A := fun L => [QV2 f g, QV2 f2 g2, .pointer (some ⟨(L0.b 0), 0, none⟩), .pointer (some ⟨(L0.b 1), 0, none⟩), .bool false, undef, undef, undef, undef, .bool true, .bool false, undef, undef, undef, undef, undef, undef, undef, undef, undef, undef, undef, undef, undef, undef, undef, undef, undef, undef, undef, undef, undef, undef, undef, undef, undef, undef, undef, undef, undef, undef, undef, undef, undef, undef, undef, undef, undef, undef, undef, undef, undef, undef, undef, undef, undef, undef, undef, undef, undef, undef, undef, undef, undef, undef, undef, undef, undef, undef, undef, undef, undef, undef, undef, undef, undef, undef, undef, undef, undef, undef, undef, undef, undef, undef, undef, undef, undef, undef, undef, undef, undef, undef, undef]) (H' := fun L => [((L0.b 0), QC2 f g), ((L0.b 1), QC2 f2 g2)]) (by kernel_rfl) rfl rfl rfl (fun L => by kernel_rfl) (fun L => by kernel_rfl) hp1 ⟨
    ob_call (vs := #[]) (by kernel_rfl) (by kernel_rfl) (fun _ => rfl) rfl rfl (fun _ => by kernel_rfl) (fun w hb _ => hB w (K.stay hg hb)),
    ob_not (b := true) (fun _ => rfl) rfl rfl (fun _ => by kernel_rfl),
    trivial⟩ (fun L1 w2 hp2 => ?_)
  refine k3 _ _ ?_
  refine wp_cond_false (by kernel_rfl) ?_
  refine skips ?_
  refine k2 _ _ ?_
  refine wp_seq_k (fun K4 k4 => ?_)
  refine wp_seq_k (fun K5 k5 => ?_)
  refine goes (ks := [.det (QV2 f g), .det (.bool true), .det (.bool false), .det (.bool false), .det (QV2 f2 g2), .det (.bool false), .det (.bool true), .det (.bool true)]) (T := [0, 1, 3, 7, 15, 31, 63, 127]) (nt := 94) (nh := 2) (H := [((L0.b 0), QC2 f g), ((L0.b 1), QC2 f2 g2)]) (A := fun L => [QV2 f g, QV2 f2 g2, .pointer (some ⟨(L0.b 0), 0, none⟩), .pointer (some ⟨(L0.b 1), 0, none⟩), .bool false, undef, undef, undef, undef, .bool true, .bool false, QV2 f g, .bool true, .bool false, .bool false, QV2 f2 g2, .bool false, .bool true, .bool true, undef, undef, undef, undef, undef, undef, undef, undef, undef, undef, undef, undef, undef, undef, undef, undef, undef, undef, undef, undef, undef, undef, undef, undef, undef, undef, undef, undef, undef, undef, undef, undef, undef, undef, undef, undef, undef, undef, undef, undef, undef, undef, undef, undef, undef, undef, undef, undef, undef, undef, undef, undef, undef, undef, undef, undef, undef, undef, undef, undef, undef, undef, undef, undef, undef, undef, undef, undef, undef, undef, undef, undef, undef, undef, undef]) (H' := fun L => [((L0.b 0), QC2 f g), ((L0.b 1), QC2 f2 g2)]) (by kernel_rfl) rfl rfl rfl (fun L => by kernel_rfl) (fun L => by kernel_rfl) hp2 ⟨
    ob_load (b := (L0.b 0)) (off := 0) (cs := QC2 f g) (by kernel_rfl) (fun _ => rfl) rfl rfl (fun _ => by kernel_rfl) (fun _ _ hs => (seen_at (k := 0) hs rfl).cells) Tryd.underlying26 rfl (sizeQC2 _ _),
    ob_call (vs := #[QV2 f g]) (by kernel_rfl) (by kernel_rfl) (fun _ => rfl) rfl rfl (fun _ => by kernel_rfl) (fun w hb _ => hm w (K.stay hg hb)),
    ob_not (b := true) (fun _ => rfl) rfl rfl (fun _ => by kernel_rfl),
    ob_move (fun _ => rfl) rfl rfl (fun _ => by kernel_rfl),
    ob_load (b := (L0.b 1)) (off := 0) (cs := QC2 f2 g2) (by kernel_rfl) (fun _ => by kernel_rfl) rfl rfl (fun _ => by kernel_rfl) (fun _ _ hs => (seen_at (k := 1) hs rfl).cells) Tryd.underlying26 rfl (sizeQC2 _ _),
    ob_call (vs := #[QV2 f2 g2]) (by kernel_rfl) (by kernel_rfl) (fun _ => by kernel_rfl) rfl rfl (fun _ => by kernel_rfl) (fun w hb _ => hn w (K.stay hg hb)),
    ob_not (b := false) (fun _ => by kernel_rfl) rfl rfl (fun _ => by kernel_rfl),
    ob_pickF (fun _ => rfl) rfl rfl (fun _ => by kernel_rfl) (fun _ => by kernel_rfl),
    trivial⟩ (fun L2 w3 hp3 => ?_)
  refine k5 _ _ ?_
  refine wp_cond_true (by kernel_rfl) ?_
  refine wp_seq_k (fun K6 k6 => ?_)
  refine draws (by kernel_rfl) (ks := [.det (QV2 f g), .det (.bool true), .det (QV2 f g), .det (.bool true), .det (.bool true), .det (.bool true)]) (T := [0, 1, 0, 7, 15, 31]) (nt := 94) (nh := 2) (H := [((L0.b 0), QC2 f g), ((L0.b 1), QC2 f2 g2)]) (A := fun L => [QV2 f g, QV2 f2 g2, .pointer (some ⟨(L0.b 0), 0, none⟩), .pointer (some ⟨(L0.b 1), 0, none⟩), .bool true, undef, undef, undef, undef, .bool true, .bool false, QV2 f g, .bool true, .bool false, .bool false, QV2 f2 g2, .bool false, .bool true, .bool true, QV2 f g, .bool true, QV2 f g, .bool true, .bool true, undef, undef, undef, undef, undef, undef, undef, undef, undef, undef, undef, undef, undef, undef, undef, undef, undef, undef, undef, undef, undef, undef, undef, undef, undef, undef, undef, undef, undef, undef, undef, undef, undef, undef, undef, undef, undef, undef, undef, undef, undef, undef, undef, undef, undef, undef, undef, undef, undef, undef, undef, undef, undef, undef, undef, undef, undef, undef, undef, undef, undef, undef, undef, undef, undef, undef, undef, undef, undef, undef]) (H' := fun L => [((L0.b 0), QC2 f g), ((L0.b 1), QC2 f2 g2)]) (by kernel_rfl) rfl rfl rfl (fun L => by kernel_rfl) (fun L => by kernel_rfl) hp3 ⟨
    ob_load (b := (L0.b 0)) (off := 0) (cs := QC2 f g) (by kernel_rfl) (fun _ => rfl) rfl rfl (fun _ => by kernel_rfl) (fun _ _ hs => (seen_at (k := 0) hs rfl).cells) Tryd.underlying26 rfl (sizeQC2 _ _),
    ob_call (vs := #[QV2 f g]) (by kernel_rfl) (by kernel_rfl) (fun _ => rfl) rfl rfl (fun _ => by kernel_rfl) (fun w hb _ => hm2 w (K.stay hg hb)),
    ob_load (b := (L0.b 0)) (off := 0) (cs := QC2 f g) (by kernel_rfl) (fun _ => rfl) rfl rfl (fun _ => by kernel_rfl) (fun _ _ hs => (seen_at (k := 0) hs rfl).cells) Tryd.underlying26 rfl (sizeQC2 _ _),
    ob_call (vs := #[QV2 f g]) (by kernel_rfl) (by kernel_rfl) (fun _ => rfl) rfl rfl (fun _ => by kernel_rfl) (fun w hb _ => hm w (K.stay hg hb)),
    ob_eq (u := .bool true) (v := .bool true) (fun _ => rfl) rfl rfl (fun _ => by kernel_rfl) (fun _ => by kernel_rfl) (fun w => guardB _ _ _ _ _ _ w) (fun w => (eqlB _ _ w).trans rfl),
    ob_assign (fun _ => rfl) rfl rfl (fun _ => by kernel_rfl),
    trivial⟩ (fun L3 w4 hp4 => ?_)
  refine k6 _ _ ?_
  refine wp_ret ?_
  exact bodyPost_ret (v := .bool true) (res_t rfl (by kernel_rfl) _) rfl ⟨rfl, hp4.bel⟩
set_option maxHeartbeats 4000000 in
theorem all2 {G : World → Prop} (K : FpK G) (R : RefK) (x y : F2) (w : World) (hg : G w) (hB : ∀ w, G w → Calls Tryd.prog 7 #[] w (Ret (.bool true) w)) (hn : x.norm = 0) : Calls Tryd.prog 3 #[PV x, PV y] w (Ret (.bool true) w) := by
  have hp0 := Heap.start w
  go_enter Tryd.func3, Tryd.ntmps3
  refine wp_seq_k (fun K1 k1 => ?_)
  refine goes (ks := [.alloc (PC x), .alloc (PC y), .det (.bool false)]) (T := [0, 0, 0]) (nt := 94) (nh := 0) (H := []) (A := fun L => [PV x, PV y, .pointer (some ⟨L.b 0, 0, none⟩), .pointer (some ⟨L.b 1, 0, none⟩), .bool false, undef, undef, undef, undef, undef, undef, undef, undef, undef, undef, undef, undef, undef, undef, undef, undef, undef, undef, undef, undef, undef, undef, undef, undef, undef, undef, undef, undef, undef, undef, undef, undef, undef, undef, undef, undef, undef, undef, undef, undef, undef, undef, undef, undef, undef, undef, undef, undef, undef, undef, undef, undef, undef, undef, undef, undef, undef, undef, undef, undef, undef, undef, undef, undef, undef, undef, undef, undef, undef, undef, undef, undef, undef, undef, undef, undef, undef, undef, undef, undef, undef, undef, undef, undef, undef, undef, undef, undef, undef]) (H' := fun L => [(L.b 0, PC x), (L.b 1, PC y)]) (by kernel_rfl) rfl rfl rfl (fun L => by kernel_rfl) (fun L => by kernel_rfl) hp0 ⟨
    ob_box (v := PV x) (fun _ => rfl) rfl rfl (fun _ => by kernel_rfl) rfl,
    ob_box (v := PV y) (fun _ => rfl) rfl rfl (fun _ => by kernel_rfl) rfl,
    ob_assign (fun _ => rfl) rfl rfl (fun _ => by kernel_rfl),
    trivial⟩ (fun L0 w1 hp1 => ?_)
  refine k1 _ _ ?_
  refine wp_seq_k (fun K2 k2 => ?_)
  refine wp_seq_k (fun K3 k3 => ?_)
  refine goes (ks := [.det (.bool true), .det (.bool false)]) (T := [0, 1]) (nt := 94) (nh := 2) (H := [((L0.b 0), PC x), ((L0.b 1), PC y)]) (A := fun L => [PV x, PV y, .pointer (some ⟨(L0.b 0), 0, none⟩), .pointer (some ⟨(L0.b 1), 0, none⟩), .bool false, undef, undef, undef, undef, .bool true, .bool false, undef, undef, undef, undef, undef, undef, undef, undef, undef, undef, undef, undef, undef, undef, undef, undef, undef, undef, undef, undef, undef, undef, undef, undef, undef, undef, undef, undef, undef, undef, undef, undef, undef, undef, undef, undef, undef, undef, undef, undef, undef, undef, undef, undef, undef, undef, undef, undef, undef, undef, undef, undef, undef, undef, undef, undef, undef, undef, undef, undef, undef, undef, undef, undef, undef, undef, undef, undef, undef, undef, undef, undef, undef, undef, undef, undef, undef, undef, undef, undef, undef, undef, undef]) (H' := fun L => [((L0.b 0), PC x), ((L0.b 1), PC y)]) (by kernel_rfl) rfl rfl rfl (fun L => by kernel_rfl) (fun L => by kernel_rfl) hp1 ⟨
    ob_call (vs := #[]) (by kernel_rfl) (by kernel_rfl) (fun _ => rfl) rfl rfl (fun _ => by kernel_rfl) (fun w hb _ => hB w (K.stay hg hb)),
    ob_not (b := true) (fun _ => rfl) rfl rfl (fun _ => by kernel_rfl),
    trivial⟩ (fun L1 w2 hp2 => ?_)
  refine k3 _ _ ?_
  refine wp_cond_false (by kernel_rfl) ?_
  refine skips ?_
  refine k2 _ _ ?_
  refine wp_seq_k (fun K4 k4 => ?_)
  refine wp_seq_k (fun K5 k5 => ?_)
  refine goes (ks := [.det (PV x), .det (.bool true), .det (.bool false), .det (.bool false), .det (PV y), .det (.bool true), .det (.bool false), .det (.bool false)]) (T := [0, 1, 3, 7, 15, 31, 63, 127]) (nt := 94) (nh := 2) (H := [((L0.b 0), PC x), ((L0.b 1), PC y)]) (A := fun L => [PV x, PV y, .pointer (some ⟨(L0.b 0), 0, none⟩), .pointer (some ⟨(L0.b 1), 0, none⟩), .bool false, undef, undef, undef, undef, .bool true, .bool false, PV x, .bool true, .bool false, .bool false, PV y, .bool true, .bool false, .bool false, undef, undef, undef, undef, undef, undef, undef, undef, undef, undef, undef, undef, undef, undef, undef, undef, undef, undef, undef, undef, undef, undef, undef, undef, undef, undef, undef, undef, undef, undef, undef, undef, undef, undef, undef, undef, undef, undef, undef, undef, undef, undef, undef, undef, undef, undef, undef, undef, undef, undef, undef, undef, undef, undef, undef, undef, undef, undef, undef, undef, undef, undef, undef, undef, undef, undef, undef, undef, undef, undef, undef, undef, undef, undef, undef]) (H' := fun L => [((L0.b 0), PC x), ((L0.b 1), PC y)]) (by kernel_rfl) rfl rfl rfl (fun L => by kernel_rfl) (fun L => by kernel_rfl) hp2 ⟨
    ob_load (b := (L0.b 0)) (off := 0) (cs := PC x) (by kernel_rfl) (fun _ => rfl) rfl rfl (fun _ => by kernel_rfl) (fun _ _ hs => (seen_at (k := 0) hs rfl).cells) Tryd.underlying26 rfl (sizePC _),
    ob_call (vs := #[PV x]) (by kernel_rfl) (by kernel_rfl) (fun _ => rfl) rfl rfl (fun _ => by kernel_rfl) (fun w _ _ => ref5MayP R _ w),
    ob_not (b := true) (fun _ => rfl) rfl rfl (fun _ => by kernel_rfl),
    ob_move (fun _ => rfl) rfl rfl (fun _ => by kernel_rfl),
    ob_load (b := (L0.b 1)) (off := 0) (cs := PC y) (by kernel_rfl) (fun _ => by kernel_rfl) rfl rfl (fun _ => by kernel_rfl) (fun _ _ hs => (seen_at (k := 1) hs rfl).cells) Tryd.underlying26 rfl (sizePC _),
    ob_call (vs := #[PV y]) (by kernel_rfl) (by kernel_rfl) (fun _ => by kernel_rfl) rfl rfl (fun _ => by kernel_rfl) (fun w _ _ => ref5MayP R _ w),
    ob_not (b := true) (fun _ => by kernel_rfl) rfl rfl (fun _ => by kernel_rfl),
    ob_pickF (fun _ => rfl) rfl rfl (fun _ => by kernel_rfl) (fun _ => by kernel_rfl),
    trivial⟩ (fun L2 w3 hp3 => ?_)
  refine k5 _ _ ?_
  refine wp_cond_false (by kernel_rfl) ?_
  refine skips ?_
  refine k4 _ _ ?_
  refine wp_seq_k (fun K6 k6 => ?_)
  refine goes (ks := [.det (PV x), .det (.tuple #[PV 0, .int .i64 7]), .det (.tuple #[PV 0, .int .i64 7]), .det (PV 0), .det (.int .i64 7), .alloc (PC 0), .store (.new 5) 0 (PC 0) (PC 0), .det (.int .i64 7)]) (T := [0, 1, 3, 7, 7, 0, 47, 127]) (nt := 94) (nh := 2) (H := [((L0.b 0), PC x), ((L0.b 1), PC y)]) (A := fun L => [PV x, PV y, .pointer (some ⟨(L0.b 0), 0, none⟩), .pointer (some ⟨(L0.b 1), 0, none⟩), .bool false, .pointer (some ⟨L.b 5, 0, none⟩), .int .i64 7, undef, undef, .bool true, .bool false, PV x, .bool true, .bool false, .bool false, PV y, .bool true, .bool false, .bool false, undef, undef, undef, undef, undef, .tuple #[PV 0, .int .i64 7], PV x, .tuple #[PV 0, .int .i64 7], PV 0, .int .i64 7, undef, undef, undef, undef, undef, undef, undef, undef, undef, undef, undef, undef, undef, undef, undef, undef, undef, undef, undef, undef, undef, undef, undef, undef, undef, undef, undef, undef, undef, undef, undef, undef, undef, undef, undef, undef, undef, undef, undef, undef, undef, undef, undef, undef, undef, undef, undef, undef, undef, undef, undef, undef, undef, undef, undef, undef, undef, undef, undef, undef, undef, undef, undef, undef, undef]) (H' := fun L => [((L0.b 0), PC x), ((L0.b 1), PC y), (L.b 5, PC 0)]) (by kernel_rfl) rfl rfl rfl (fun L => by kernel_rfl) (fun L => by kernel_rfl) hp3 ⟨
    ob_load (b := (L0.b 0)) (off := 0) (cs := PC x) (by kernel_rfl) (fun _ => rfl) rfl rfl (fun _ => by kernel_rfl) (fun _ _ hs => (seen_at (k := 0) hs rfl).cells) Tryd.underlying26 rfl (sizePC _),
    ob_call (vs := #[PV x]) (by kernel_rfl) (by kernel_rfl) (fun _ => rfl) rfl rfl (fun _ => by kernel_rfl) (fun w hb _ => fp2Inv0 K x w (K.stay hg hb) hn),
    ob_move (fun _ => rfl) rfl rfl (fun _ => by kernel_rfl),
    ob_extract (vs := #[PV 0, .int .i64 7]) (fun _ => rfl) rfl rfl (fun _ => by kernel_rfl) rfl,
    ob_extract (vs := #[PV 0, .int .i64 7]) (fun _ => rfl) rfl rfl (fun _ => by kernel_rfl) rfl,
    ob_alloc (v := PV 0) (fun _ => rfl) rfl rfl zeroP rfl,
    ob_store (old := PC 0) (fun _ => rfl) rfl rfl (fun _ => by kernel_rfl) (fun _ => by kernel_rfl) rfl (sizePC _) (PC_one _) (le_len (PC_len _) (PC_len _) (by decide)) (splice_all ((PC_len _).trans (PC_len _).symm)).symm,
    ob_assign (fun _ => rfl) rfl rfl (fun _ => by kernel_rfl),
    trivial⟩ (fun L3 w4 hp4 => ?_)
  refine k6 _ _ ?_
  refine wp_seq_k (fun K7 k7 => ?_)
  refine goes (ks := [.det (PV x), .det (.tuple #[PV 0, .int .i64 7]), .det (.tuple #[PV 0, .int .i64 7]), .det (PV 0), .det (.int .i64 7), .alloc (PC 0), .store (.new 5) 0 (PC 0) (PC 0), .det (.int .i64 7)]) (T := [0, 1, 3, 7, 7, 0, 47, 127]) (nt := 94) (nh := 3) (H := [((L0.b 0), PC x), ((L0.b 1), PC y), ((L3.b 5), PC 0)]) (A := fun L => [PV x, PV y, .pointer (some ⟨(L0.b 0), 0, none⟩), .pointer (some ⟨(L0.b 1), 0, none⟩), .bool false, .pointer (some ⟨(L3.b 5), 0, none⟩), .int .i64 7, .pointer (some ⟨L.b 5, 0, none⟩), .int .i64 7, .bool true, .bool false, PV x, .bool true, .bool false, .bool false, PV y, .bool true, .bool false, .bool false, undef, undef, undef, undef, undef, .tuple #[PV 0, .int .i64 7], PV x, .tuple #[PV 0, .int .i64 7], PV 0, .int .i64 7, .tuple #[PV 0, .int .i64 7], PV x, .tuple #[PV 0, .int .i64 7], PV 0, .int .i64 7, undef, undef, undef, undef, undef, undef, undef, undef, undef, undef, undef, undef, undef, undef, undef, undef, undef, undef, undef, undef, undef, undef, undef, undef, undef, undef, undef, undef, undef, undef, undef, undef, undef, undef, undef, undef, undef, undef, undef, undef, undef, undef, undef, undef, undef, undef, undef, undef, undef, undef, undef, undef, undef, undef, undef, undef, undef, undef, undef, undef]) (H' := fun L => [((L0.b 0), PC x), ((L0.b 1), PC y), ((L3.b 5), PC 0), (L.b 5, PC 0)]) (by kernel_rfl) rfl rfl rfl (fun L => by kernel_rfl) (fun L => by kernel_rfl) hp4 ⟨
    ob_load (b := (L0.b 0)) (off := 0) (cs := PC x) (by kernel_rfl) (fun _ => rfl) rfl rfl (fun _ => by kernel_rfl) (fun _ _ hs => (seen_at (k := 0) hs rfl).cells) Tryd.underlying26 rfl (sizePC _),
    ob_call (vs := #[PV x]) (by kernel_rfl) (by kernel_rfl) (fun _ => rfl) rfl rfl (fun _ => by kernel_rfl) (fun w _ _ => ref5Inv20 R x w hn),
    ob_move (fun _ => rfl) rfl rfl (fun _ => by kernel_rfl),
    ob_extract (vs := #[PV 0, .int .i64 7]) (fun _ => rfl) rfl rfl (fun _ => by kernel_rfl) rfl,
    ob_extract (vs := #[PV 0, .int .i64 7]) (fun _ => rfl) rfl rfl (fun _ => by kernel_rfl) rfl,
    ob_alloc (v := PV 0) (fun _ => rfl) rfl rfl zeroP rfl,
    ob_store (old := PC 0) (fun _ => rfl) rfl rfl (fun _ => by kernel_rfl) (fun _ => by kernel_rfl) rfl (sizePC _) (PC_one _) (le_len (PC_len _) (PC_len _) (by decide)) (splice_all ((PC_len _).trans (PC_len _).symm)).symm,
    ob_assign (fun _ => rfl) rfl rfl (fun _ => by kernel_rfl),
    trivial⟩ (fun L4 w5 hp5 => ?_)
  refine k7 _ _ ?_
  refine wp_seq_k (fun K8 k8 => ?_)
  refine draws (by kernel_rfl) (ks := [.det (PV x), .det (PV y), .det (PV (x + y)), .det (PV x), .det (PV y), .det (PV (x + y)), .det (.bool true), .det (.bool true), .det (PV x), .det (PV y), .det (PV (x - y)), .det (PV x), .det (PV y), .det (PV (x - y)), .det (.bool true), .det (.bool true), .det (.bool true), .det (PV x), .det (PV (-x)), .det (PV x), .det (PV (-x)), .det (.bool true), .det (.bool true), .det (.bool true), .det (PV x), .det (PV y), .det (PV (x * y)), .det (PV x), .det (PV y), .det (PV (x * y)), .det (.bool true), .det (.bool true), .det (.bool true), .det (PV x), .det (PV x.conj), .det (PV x), .det (PV x.conj), .det (.bool true), .det (.bool true), .det (.bool true), .det (PV x), .det (.bool x.great), .det (PV x), .det (.bool x.great), .det (.bool true), .det (.bool true), .det (.bool true), .det (PV x), .det (.bool true), .det (.bool true), .det (.bool true), .det (PV 0), .det (PV 0), .det (.bool true), .det (.bool true), .det (.bool true), .det (.int .i64 7), .det (.int .i64 7), .det (.bool true), .det (.bool true), .det (.bool true)]) (T := [0, 0, 3, 0, 0, 31, 63, 127, 255, 255, 1023, 255, 255, 8191, 16383, 32767, 65535, 131071, 262143, 131071, 1048575, 2097151, 4194303, 8388607, 16777215, 16777215, 67108863, 16777215, 16777215, 536870911, 1073741823, 2147483647, 4294967295, 8589934591, 17179869183, 8589934591, 68719476735, 137438953471, 274877906943, 549755813887, 1099511627775, 2199023255551, 1099511627775, 8796093022207, 17592186044415, 35184372088831, 70368744177663, 140737488355327, 281474976710655, 562949953421311, 1125899906842623, 2251799813685247, 2251799813685247, 9007199254740991, 18014398509481983, 36028797018963967, 72057594037927935, 72057594037927935, 288230376151711743, 576460752303423487, 1152921504606846975]) (nt := 94) (nh := 4) (H := [((L0.b 0), PC x), ((L0.b 1), PC y), ((L3.b 5), PC 0), ((L4.b 5), PC 0)]) (A := fun L => [PV x, PV y, .pointer (some ⟨(L0.b 0), 0, none⟩), .pointer (some ⟨(L0.b 1), 0, none⟩), .bool true, .pointer (some ⟨(L3.b 5), 0, none⟩), .int .i64 7, .pointer (some ⟨(L4.b 5), 0, none⟩), .int .i64 7, .bool true, .bool false, PV x, .bool true, .bool false, .bool false, PV y, .bool true, .bool false, .bool false, undef, undef, undef, undef, undef, .tuple #[PV 0, .int .i64 7], PV x, .tuple #[PV 0, .int .i64 7], PV 0, .int .i64 7, .tuple #[PV 0, .int .i64 7], PV x, .tuple #[PV 0, .int .i64 7], PV 0, .int .i64 7, PV x, PV y, PV (x + y), PV x, PV y, PV (x + y), .bool true, .bool true, PV x, PV y, PV (x - y), PV x, PV y, PV (x - y), .bool true, .bool true, .bool true, PV x, PV (-x), PV x, PV (-x), .bool true, .bool true, .bool true, PV x, PV y, PV (x * y), PV x, PV y, PV (x * y), .bool true, .bool true, .bool true, PV x, PV x.conj, PV x, PV x.conj, .bool true, .bool true, .bool true, PV x, .bool x.great, PV x, .bool x.great, .bool true, .bool true, .bool true, PV x, .bool true, .bool true, .bool true, PV 0, PV 0, .bool true, .bool true, .bool true, .int .i64 7, .int .i64 7, .bool true, .bool true]) (H' := fun L => [((L0.b 0), PC x), ((L0.b 1), PC y), ((L3.b 5), PC 0), ((L4.b 5), PC 0)]) (by kernel_rfl) rfl rfl rfl (fun L => by kernel_rfl) (fun L => by kernel_rfl) hp5 ⟨
    ob_load (b := (L0.b 0)) (off := 0) (cs := PC x) (by kernel_rfl) (fun _ => rfl) rfl rfl (fun _ => by kernel_rfl) (fun _ _ hs => (seen_at (k := 0) hs rfl).cells) Tryd.underlying26 rfl (sizePC _),
    ob_load (b := (L0.b 1)) (off := 0) (cs := PC y) (by kernel_rfl) (fun _ => rfl) rfl rfl (fun _ => by kernel_rfl) (fun _ _ hs => (seen_at (k := 1) hs rfl).cells) Tryd.underlying26 rfl (sizePC _),
    ob_call (vs := #[PV x, PV y]) (by kernel_rfl) (by kernel_rfl) (fun _ => rfl) rfl rfl (fun _ => by kernel_rfl) (fun w hb _ => fp2Add K _ _ w (K.stay hg hb)),
    ob_load (b := (L0.b 0)) (off := 0) (cs := PC x) (by kernel_rfl) (fun _ => rfl) rfl rfl (fun _ => by kernel_rfl) (fun _ _ hs => (seen_at (k := 0) hs rfl).cells) Tryd.underlying26 rfl (sizePC _),
    ob_load (b := (L0.b 1)) (off := 0) (cs := PC y) (by kernel_rfl) (fun _ => rfl) rfl rfl (fun _ => by kernel_rfl) (fun _ _ hs => (seen_at (k := 1) hs rfl).cells) Tryd.underlying26 rfl (sizePC _),
    ob_call (vs := #[PV x, PV y]) (by kernel_rfl) (by kernel_rfl) (fun _ => rfl) rfl rfl (fun _ => by kernel_rfl) (fun w _ _ => ref5Add2 R _ _ w),
    ob_eq (u := PV (x + y)) (v := PV (x + y)) (fun _ => rfl) rfl rfl (fun _ => by kernel_rfl) (fun _ => by kernel_rfl) (fun w => guardP _ _ _ _ _ w) (fun w => (eqlP _ _ w).trans (by rw [decide_eq_true (rfl)]; try rfl)),
    ob_move (fun _ => rfl) rfl rfl (fun _ => by kernel_rfl),
    ob_load (b := (L0.b 0)) (off := 0) (cs := PC x) (by kernel_rfl) (fun _ => by kernel_rfl) rfl rfl (fun _ => by kernel_rfl) (fun _ _ hs => (seen_at (k := 0) hs rfl).cells) Tryd.underlying26 rfl (sizePC _),
    ob_load (b := (L0.b 1)) (off := 0) (cs := PC y) (by kernel_rfl) (fun _ => by kernel_rfl) rfl rfl (fun _ => by kernel_rfl) (fun _ _ hs => (seen_at (k := 1) hs rfl).cells) Tryd.underlying26 rfl (sizePC _),
    ob_call (vs := #[PV x, PV y]) (by kernel_rfl) (by kernel_rfl) (fun _ => by kernel_rfl) rfl rfl (fun _ => by kernel_rfl) (fun w hb _ => fp2Sub K _ _ w (K.stay hg hb)),
    ob_load (b := (L0.b 0)) (off := 0) (cs := PC x) (by kernel_rfl) (fun _ => by kernel_rfl) rfl rfl (fun _ => by kernel_rfl) (fun _ _ hs => (seen_at (k := 0) hs rfl).cells) Tryd.underlying26 rfl (sizePC _),
    ob_load (b := (L0.b 1)) (off := 0) (cs := PC y) (by kernel_rfl) (fun _ => by kernel_rfl) rfl rfl (fun _ => by kernel_rfl) (fun _ _ hs => (seen_at (k := 1) hs rfl).cells) Tryd.underlying26 rfl (sizePC _),
    ob_call (vs := #[PV x, PV y]) (by kernel_rfl) (by kernel_rfl) (fun _ => by kernel_rfl) rfl rfl (fun _ => by kernel_rfl) (fun w _ _ => ref5Sub2 R _ _ w),
    ob_eq (u := PV (x - y)) (v := PV (x - y)) (fun _ => by kernel_rfl) rfl rfl (fun _ => by kernel_rfl) (fun _ => by kernel_rfl) (fun w => guardP _ _ _ _ _ w) (fun w => (eqlP _ _ w).trans (by rw [decide_eq_true (rfl)]; try rfl)),
    ob_pickT (fun _ => rfl) rfl rfl (fun _ => by kernel_rfl) (fun _ => by kernel_rfl),
    ob_move (fun _ => rfl) rfl rfl (fun _ => by kernel_rfl),
    ob_load (b := (L0.b 0)) (off := 0) (cs := PC x) (by kernel_rfl) (fun _ => by kernel_rfl) rfl rfl (fun _ => by kernel_rfl) (fun _ _ hs => (seen_at (k := 0) hs rfl).cells) Tryd.underlying26 rfl (sizePC _),
    ob_call (vs := #[PV x]) (by kernel_rfl) (by kernel_rfl) (fun _ => by kernel_rfl) rfl rfl (fun _ => by kernel_rfl) (fun w hb _ => fp2Neg K _ w (K.stay hg hb)),
    ob_load (b := (L0.b 0)) (off := 0) (cs := PC x) (by kernel_rfl) (fun _ => by kernel_rfl) rfl rfl (fun _ => by kernel_rfl) (fun _ _ hs => (seen_at (k := 0) hs rfl).cells) Tryd.underlying26 rfl (sizePC _),
    ob_call (vs := #[PV x]) (by kernel_rfl) (by kernel_rfl) (fun _ => by kernel_rfl) rfl rfl (fun _ => by kernel_rfl) (fun w _ _ => ref5Neg2 R _ w),
    ob_eq (u := PV (-x)) (v := PV (-x)) (fun _ => by kernel_rfl) rfl rfl (fun _ => by kernel_rfl) (fun _ => by kernel_rfl) (fun w => guardP _ _ _ _ _ w) (fun w => (eqlP _ _ w).trans (by rw [decide_eq_true (rfl)]; try rfl)),
    ob_pickT (fun _ => rfl) rfl rfl (fun _ => by kernel_rfl) (fun _ => by kernel_rfl),
    ob_move (fun _ => rfl) rfl rfl (fun _ => by kernel_rfl),
    ob_load (b := (L0.b 0)) (off := 0) (cs := PC x) (by kernel_rfl) (fun _ => by kernel_rfl) rfl rfl (fun _ => by kernel_rfl) (fun _ _ hs => (seen_at (k := 0) hs rfl).cells) Tryd.underlying26 rfl (sizePC _),
    ob_load (b := (L0.b 1)) (off := 0) (cs := PC y) (by kernel_rfl) (fun _ => by kernel_rfl) rfl rfl (fun _ => by kernel_rfl) (fun _ _ hs => (seen_at (k := 1) hs rfl).cells) Tryd.underlying26 rfl (sizePC _),
    ob_call (vs := #[PV x, PV y]) (by kernel_rfl) (by kernel_rfl) (fun _ => by kernel_rfl) rfl rfl (fun _ => by kernel_rfl) (fun w hb _ => fp2Mul K _ _ w (K.stay hg hb)),
    ob_load (b := (L0.b 0)) (off := 0) (cs := PC x) (by kernel_rfl) (fun _ => by kernel_rfl) rfl rfl (fun _ => by kernel_rfl) (fun _ _ hs => (seen_at (k := 0) hs rfl).cells) Tryd.underlying26 rfl (sizePC _),
    ob_load (b := (L0.b 1)) (off := 0) (cs := PC y) (by kernel_rfl) (fun _ => by kernel_rfl) rfl rfl (fun _ => by kernel_rfl) (fun _ _ hs => (seen_at (k := 1) hs rfl).cells) Tryd.underlying26 rfl (sizePC _),
    ob_call (vs := #[PV x, PV y]) (by kernel_rfl) (by kernel_rfl) (fun _ => by kernel_rfl) rfl rfl (fun _ => by kernel_rfl) (fun w _ _ => ref5Mul2 R _ _ w),
    ob_eq (u := PV (x * y)) (v := PV (x * y)) (fun _ => by kernel_rfl) rfl rfl (fun _ => by kernel_rfl) (fun _ => by kernel_rfl) (fun w => guardP _ _ _ _ _ w) (fun w => (eqlP _ _ w).trans (by rw [decide_eq_true (rfl)]; try rfl)),
    ob_pickT (fun _ => rfl) rfl rfl (fun _ => by kernel_rfl) (fun _ => by kernel_rfl),
    ob_move (fun _ => rfl) rfl rfl (fun _ => by kernel_rfl),
    ob_load (b := (L0.b 0)) (off := 0) (cs := PC x) (by kernel_rfl) (fun _ => by kernel_rfl) rfl rfl (fun _ => by kernel_rfl) (fun _ _ hs => (seen_at (k := 0) hs rfl).cells) Tryd.underlying26 rfl (sizePC _),
    ob_call (vs := #[PV x]) (by kernel_rfl) (by kernel_rfl) (fun _ => by kernel_rfl) rfl rfl (fun _ => by kernel_rfl) (fun w hb _ => fp2Conj K _ w (K.stay hg hb)),
    ob_load (b := (L0.b 0)) (off := 0) (cs := PC x) (by kernel_rfl) (fun _ => by kernel_rfl) rfl rfl (fun _ => by kernel_rfl) (fun _ _ hs => (seen_at (k := 0) hs rfl).cells) Tryd.underlying26 rfl (sizePC _),
    ob_call (vs := #[PV x]) (by kernel_rfl) (by kernel_rfl) (fun _ => by kernel_rfl) rfl rfl (fun _ => by kernel_rfl) (fun w _ _ => ref5Conj2 R _ w),
    ob_eq (u := PV x.conj) (v := PV x.conj) (fun _ => by kernel_rfl) rfl rfl (fun _ => by kernel_rfl) (fun _ => by kernel_rfl) (fun w => guardP _ _ _ _ _ w) (fun w => (eqlP _ _ w).trans (by rw [decide_eq_true (rfl)]; try rfl)),
    ob_pickT (fun _ => rfl) rfl rfl (fun _ => by kernel_rfl) (fun _ => by kernel_rfl),
    ob_move (fun _ => rfl) rfl rfl (fun _ => by kernel_rfl),
    ob_load (b := (L0.b 0)) (off := 0) (cs := PC x) (by kernel_rfl) (fun _ => by kernel_rfl) rfl rfl (fun _ => by kernel_rfl) (fun _ _ hs => (seen_at (k := 0) hs rfl).cells) Tryd.underlying26 rfl (sizePC _),
    ob_call (vs := #[PV x]) (by kernel_rfl) (by kernel_rfl) (fun _ => by kernel_rfl) rfl rfl (fun _ => by kernel_rfl) (fun w hb _ => fp2Great K _ w (K.stay hg hb)),
    ob_load (b := (L0.b 0)) (off := 0) (cs := PC x) (by kernel_rfl) (fun _ => by kernel_rfl) rfl rfl (fun _ => by kernel_rfl) (fun _ _ hs => (seen_at (k := 0) hs rfl).cells) Tryd.underlying26 rfl (sizePC _),
    ob_call (vs := #[PV x]) (by kernel_rfl) (by kernel_rfl) (fun _ => by kernel_rfl) rfl rfl (fun _ => by kernel_rfl) (fun w _ _ => ref5Great2 R _ w),
    ob_eq (u := .bool x.great) (v := .bool x.great) (fun _ => by kernel_rfl) rfl rfl (fun _ => by kernel_rfl) (fun _ => by kernel_rfl) (fun w => guardB _ _ _ _ _ _ w) (fun w => (eqlB _ _ w).trans (by simp)),
    ob_pickT (fun _ => rfl) rfl rfl (fun _ => by kernel_rfl) (fun _ => by kernel_rfl),
    ob_move (fun _ => rfl) rfl rfl (fun _ => by kernel_rfl),
    ob_load (b := (L0.b 0)) (off := 0) (cs := PC x) (by kernel_rfl) (fun _ => by kernel_rfl) rfl rfl (fun _ => by kernel_rfl) (fun _ _ hs => (seen_at (k := 0) hs rfl).cells) Tryd.underlying26 rfl (sizePC _),
    ob_call (vs := #[PV x]) (by kernel_rfl) (by kernel_rfl) (fun _ => by kernel_rfl) rfl rfl (fun _ => by kernel_rfl) (fun w hb _ => fp2MayP K _ w (K.stay hg hb)),
    ob_pickT (fun _ => rfl) rfl rfl (fun _ => by kernel_rfl) (fun _ => by kernel_rfl),
    ob_move (fun _ => rfl) rfl rfl (fun _ => by kernel_rfl),
    ob_load (b := (L3.b 5)) (off := 0) (cs := PC 0) (by kernel_rfl) (fun _ => by kernel_rfl) rfl rfl (fun _ => by kernel_rfl) (fun _ _ hs => (seen_at (k := 2) hs rfl).cells) Tryd.underlying26 rfl (sizePC _),
    ob_load (b := (L4.b 5)) (off := 0) (cs := PC 0) (by kernel_rfl) (fun _ => by kernel_rfl) rfl rfl (fun _ => by kernel_rfl) (fun _ _ hs => (seen_at (k := 3) hs rfl).cells) Tryd.underlying26 rfl (sizePC _),
    ob_eq (u := PV 0) (v := PV 0) (fun _ => by kernel_rfl) rfl rfl (fun _ => by kernel_rfl) (fun _ => by kernel_rfl) (fun w => guardP _ _ _ _ _ w) (fun w => (eqlP _ _ w).trans (by rw [decide_eq_true (rfl)]; try rfl)),
    ob_pickT (fun _ => rfl) rfl rfl (fun _ => by kernel_rfl) (fun _ => by kernel_rfl),
    ob_move (fun _ => rfl) rfl rfl (fun _ => by kernel_rfl),
    ob_move (fun _ => by kernel_rfl) rfl rfl (fun _ => by kernel_rfl),
    ob_move (fun _ => by kernel_rfl) rfl rfl (fun _ => by kernel_rfl),
    ob_eq (u := .int .i64 7) (v := .int .i64 7) (fun _ => by kernel_rfl) rfl rfl (fun _ => by kernel_rfl) (fun _ => by kernel_rfl) (fun w => guardI _ _ _ _ _ _ _ _ w) (fun w => (eqlI _ _ _ _ w).trans rfl),
    ob_pickT (fun _ => rfl) rfl rfl (fun _ => by kernel_rfl) (fun _ => by kernel_rfl),
    ob_assign (fun _ => rfl) rfl rfl (fun _ => by kernel_rfl),
    trivial⟩ (fun L5 w6 hp6 => ?_)
  refine k8 _ _ ?_
  refine wp_ret ?_
  exact bodyPost_ret (v := .bool true) (res_t rfl (by kernel_rfl) _) rfl ⟨rfl, hp6.bel⟩
set_option maxHeartbeats 4000000 in
theorem all3 {G : World → Prop} (K : FpK G) (R : RefK) (x y : F2) (w : World) (hg : G w) (hB : ∀ w, G w → Calls Tryd.prog 7 #[] w (Ret (.bool true) w)) (hn : x.norm ≠ 0) : Calls Tryd.prog 3 #[PV x, PV y] w (Ret (.bool true) w) := by
  have hp0 := Heap.start w
  go_enter Tryd.func3, Tryd.ntmps3
  refine wp_seq_k (fun K1 k1 => ?_)
  refine goes (ks := [.alloc (PC x), .alloc (PC y), .det (.bool false)]) (T := [0, 0, 0]) (nt := 94) (nh := 0) (H := []) (A := fun L => [PV x, PV y, .pointer (some ⟨L.b 0, 0, none⟩), .pointer (some ⟨L.b 1, 0, none⟩), .bool false, undef, undef, undef, undef, undef, undef, undef, undef, undef, undef, undef, undef, undef, undef, undef, undef, undef, undef, undef, undef, undef, undef, undef, undef, undef, undef, undef, undef, undef, undef, undef, undef, undef, undef, undef, undef, undef, undef, undef, undef, undef, undef, undef, undef, undef, undef, undef, undef, undef, undef, undef, undef, undef, undef, undef, undef, undef, undef, undef, undef, undef, undef, undef, undef, undef, undef, undef, undef, undef, undef, undef, undef, undef, undef, undef, undef, undef, undef, undef, undef, undef, undef, undef, undef, undef, undef, undef, undef, undef]) (H' := fun L => [(L.b 0, PC x), (L.b 1, PC y)]) (by kernel_rfl) rfl rfl rfl (fun L => by kernel_rfl) (fun L => by kernel_rfl) hp0 ⟨
    ob_box (v := PV x) (fun _ => rfl) rfl rfl (fun _ => by kernel_rfl) rfl,
    ob_box (v := PV y) (fun _ => rfl) rfl rfl (fun _ => by kernel_rfl) rfl,
    ob_assign (fun _ => rfl) rfl rfl (fun _ => by kernel_rfl),
    trivial⟩ (fun L0 w1 hp1 => ?_)
  refine k1 _ _ ?_
  refine wp_seq_k (fun K2 k2 => ?_)
  refine wp_seq_k (fun K3 k3 => ?_)
  refine goes (ks := [.det (.bool true), .det (.bool false)]) (T := [0, 1]) (nt := 94) (nh := 2) (H := [((L0.b 0), PC x), ((L0.b 1), PC y)]) (A := fun L => [PV x, PV y, .pointer (some ⟨(L0.b 0), 0, none⟩), .pointer (some ⟨(L0.b 1), 0, none⟩), .bool false, undef, undef, undef, undef, .bool true, .bool false, undef, undef, undef, undef, undef, undef, undef, undef, undef, undef, undef, undef, undef, undef, undef, undef, undef, undef, undef, undef, undef, undef, undef, undef, undef, undef, undef, undef, undef, undef, undef, undef, undef, undef, undef, undef, undef, undef, undef, undef, undef, undef, undef, undef, undef, undef, undef, undef, undef, undef, undef, undef, undef, undef, undef, undef, undef, undef, undef, undef, undef, undef, undef, undef, undef, undef, undef, undef, undef, undef, undef, undef, undef, undef, undef, undef, undef, undef, undef, undef, undef, undef, undef]) (H' := fun L => [((L0.b 0), PC x), ((L0.b 1), PC y)]) (by kernel_rfl) rfl rfl rfl (fun L => by kernel_rfl) (fun L => by kernel_rfl) hp1 ⟨
    ob_call (vs := #[]) (by kernel_rfl) (by kernel_rfl) (fun _ => rfl) rfl rfl (fun _ => by kernel_rfl) (fun w hb _ => hB w (K.stay hg hb)),
    ob_not (b := true) (fun _ => rfl) rfl rfl (fun _ => by kernel_rfl),
    trivial⟩ (fun L1 w2 hp2 => ?_)
  refine k3 _ _ ?_
  refine wp_cond_false (by kernel_rfl) ?_
  refine skips ?_
  refine k2 _ _ ?_
  refine wp_seq_k (fun K4 k4 => ?_)
  refine wp_seq_k (fun K5 k5 => ?_)
  refine goes (ks := [.det (PV x), .det (.bool true), .det (.bool false), .det (.bool false), .det (PV y), .det (.bool true), .det (.bool false), .det (.bool false)]) (T := [0, 1, 3, 7, 15, 31, 63, 127]) (nt := 94) (nh := 2) (H := [((L0.b 0), PC x), ((L0.b 1), PC y)]) (A := fun L => [PV x, PV y, .pointer (some ⟨(L0.b 0), 0, none⟩), .pointer (some ⟨(L0.b 1), 0, none⟩), .bool false, undef, undef, undef, undef, .bool true, .bool false, PV x, .bool true, .bool false, .bool false, PV y, .bool true, .bool false, .bool false, undef, undef, undef, undef, undef, undef, undef, undef, undef, undef, undef, undef, undef, undef, undef, undef, undef, undef, undef, undef, undef, undef, undef, undef, undef, undef, undef, undef, undef, undef, undef, undef, undef, undef, undef, undef, undef, undef, undef, undef, undef, undef, undef, undef, undef, undef, undef, undef, undef, undef, undef, undef, undef, undef, undef, undef, undef, undef, undef, undef, undef, undef, undef, undef, undef, undef, undef, undef, undef, undef, undef, undef, undef, undef, undef]) (H' := fun L => [((L0.b 0), PC x), ((L0.b 1), PC y)]) (by kernel_rfl) rfl rfl rfl (fun L => by kernel_rfl) (fun L => by kernel_rfl) hp2 ⟨
    ob_load (b := (L0.b 0)) (off := 0) (cs := PC x) (by kernel_rfl) (fun _ => rfl) rfl rfl (fun _ => by kernel_rfl) (fun _ _ hs => (seen_at (k := 0) hs rfl).cells) Tryd.underlying26 rfl (sizePC _),
    ob_call (vs := #[PV x]) (by kernel_rfl) (by kernel_rfl) (fun _ => rfl) rfl rfl (fun _ => by kernel_rfl) (fun w _ _ => ref5MayP R _ w),
    ob_not (b := true) (fun _ => rfl) rfl rfl (fun _ => by kernel_rfl),
    ob_move (fun _ => rfl) rfl rfl (fun _ => by kernel_rfl),
    ob_load (b := (L0.b 1)) (off := 0) (cs := PC y) (by kernel_rfl) (fun _ => by kernel_rfl) rfl rfl (fun _ => by kernel_rfl) (fun _ _ hs => (seen_at (k := 1) hs rfl).cells) Tryd.underlying26 rfl (sizePC _),
    ob_call (vs := #[PV y]) (by kernel_rfl) (by kernel_rfl) (fun _ => by kernel_rfl) rfl rfl (fun _ => by kernel_rfl) (fun w _ _ => ref5MayP R _ w),
    ob_not (b := true) (fun _ => by kernel_rfl) rfl rfl (fun _ => by kernel_rfl),
    ob_pickF (fun _ => rfl) rfl rfl (fun _ => by kernel_rfl) (fun _ => by kernel_rfl),
    trivial⟩ (fun L2 w3 hp3 => ?_)
  refine k5 _ _ ?_
  refine wp_cond_false (by kernel_rfl) ?_
  refine skips ?_
  refine k4 _ _ ?_
  refine wp_seq_k (fun K6 k6 => ?_)
  refine goes (ks := [.det (PV x), .det (.tuple #[PV x.inv, .int .i64 0]), .det (.tuple #[PV x.inv, .int .i64 0]), .det (PV x.inv), .det (.int .i64 0), .alloc (PC 0), .store (.new 5) 0 (PC x.inv) (PC x.inv), .det (.int .i64 0)]) (T := [0, 1, 3, 7, 7, 0, 47, 127]) (nt := 94) (nh := 2) (H := [((L0.b 0), PC x), ((L0.b 1), PC y)]) (A := fun L => [PV x, PV y, .pointer (some ⟨(L0.b 0), 0, none⟩), .pointer (some ⟨(L0.b 1), 0, none⟩), .bool false, .pointer (some ⟨L.b 5, 0, none⟩), .int .i64 0, undef, undef, .bool true, .bool false, PV x, .bool true, .bool false, .bool false, PV y, .bool true, .bool false, .bool false, undef, undef, undef, undef, undef, .tuple #[PV x.inv, .int .i64 0], PV x, .tuple #[PV x.inv, .int .i64 0], PV x.inv, .int .i64 0, undef, undef, undef, undef, undef, undef, undef, undef, undef, undef, undef, undef, undef, undef, undef, undef, undef, undef, undef, undef, undef, undef, undef, undef, undef, undef, undef, undef, undef, undef, undef, undef, undef, undef, undef, undef, undef, undef, undef, undef, undef, undef, undef, undef, undef, undef, undef, undef, undef, undef, undef, undef, undef, undef, undef, undef, undef, undef, undef, undef, undef, undef, undef, undef, undef]) (H' := fun L => [((L0.b 0), PC x), ((L0.b 1), PC y), (L.b 5, PC x.inv)]) (by kernel_rfl) rfl rfl rfl (fun L => by kernel_rfl) (fun L => by kernel_rfl) hp3 ⟨
    ob_load (b := (L0.b 0)) (off := 0) (cs := PC x) (by kernel_rfl) (fun _ => rfl) rfl rfl (fun _ => by kernel_rfl) (fun _ _ hs => (seen_at (k := 0) hs rfl).cells) Tryd.underlying26 rfl (sizePC _),
    ob_call (vs := #[PV x]) (by kernel_rfl) (by kernel_rfl) (fun _ => rfl) rfl rfl (fun _ => by kernel_rfl) (fun w hb _ => fp2Inv K x w (K.stay hg hb) hn),
    ob_move (fun _ => rfl) rfl rfl (fun _ => by kernel_rfl),
    ob_extract (vs := #[PV x.inv, .int .i64 0]) (fun _ => rfl) rfl rfl (fun _ => by kernel_rfl) rfl,
    ob_extract (vs := #[PV x.inv, .int .i64 0]) (fun _ => rfl) rfl rfl (fun _ => by kernel_rfl) rfl,
    ob_alloc (v := PV 0) (fun _ => rfl) rfl rfl zeroP rfl,
    ob_store (old := PC 0) (fun _ => rfl) rfl rfl (fun _ => by kernel_rfl) (fun _ => by kernel_rfl) rfl (sizePC _) (PC_one _) (le_len (PC_len _) (PC_len _) (by decide)) (splice_all ((PC_len _).trans (PC_len _).symm)).symm,
    ob_assign (fun _ => rfl) rfl rfl (fun _ => by kernel_rfl),
    trivial⟩ (fun L3 w4 hp4 => ?_)
  refine k6 _ _ ?_
  refine wp_seq_k (fun K7 k7 => ?_)
  refine goes (ks := [.det (PV x), .det (.tuple #[PV x.inv, .int .i64 0]), .det (.tuple #[PV x.inv, .int .i64 0]), .det (PV x.inv), .det (.int .i64 0), .alloc (PC 0), .store (.new 5) 0 (PC x.inv) (PC x.inv), .det (.int .i64 0)]) (T := [0, 1, 3, 7, 7, 0, 47, 127]) (nt := 94) (nh := 3) (H := [((L0.b 0), PC x), ((L0.b 1), PC y), ((L3.b 5), PC x.inv)]) (A := fun L => [PV x, PV y, .pointer (some ⟨(L0.b 0), 0, none⟩), .pointer (some ⟨(L0.b 1), 0, none⟩), .bool false, .pointer (some ⟨(L3.b 5), 0, none⟩), .int .i64 0, .pointer (some ⟨L.b 5, 0, none⟩), .int .i64 0, .bool true, .bool false, PV x, .bool true, .bool false, .bool false, PV y, .bool true, .bool false, .bool false, undef, undef, undef, undef, undef, .tuple #[PV x.inv, .int .i64 0], PV x, .tuple #[PV x.inv, .int .i64 0], PV x.inv, .int .i64 0, .tuple #[PV x.inv, .int .i64 0], PV x, .tuple #[PV x.inv, .int .i64 0], PV x.inv, .int .i64 0, undef, undef, undef, undef, undef, undef, undef, undef, undef, undef, undef, undef, undef, undef, undef, undef, undef, undef, undef, undef, undef, undef, undef, undef, undef, undef, undef, undef, undef, undef, undef, undef, undef, undef, undef, undef, undef, undef, undef, undef, undef, undef, undef, undef, undef, undef, undef, undef, undef, undef, undef, undef, undef, undef, undef, undef, undef, undef, undef, undef]) (H' := fun L => [((L0.b 0), PC x), ((L0.b 1), PC y), ((L3.b 5), PC x.inv), (L.b 5, PC x.inv)]) (by kernel_rfl) rfl rfl rfl (fun L => by kernel_rfl) (fun L => by kernel_rfl) hp4 ⟨
    ob_load (b := (L0.b 0)) (off := 0) (cs := PC x) (by kernel_rfl) (fun _ => rfl) rfl rfl (fun _ => by kernel_rfl) (fun _ _ hs => (seen_at (k := 0) hs rfl).cells) Tryd.underlying26 rfl (sizePC _),
    ob_call (vs := #[PV x]) (by kernel_rfl) (by kernel_rfl) (fun _ => rfl) rfl rfl (fun _ => by kernel_rfl) (fun w _ _ => ref5Inv2 R x w hn),
    ob_move (fun _ => rfl) rfl rfl (fun _ => by kernel_rfl),
    ob_extract (vs := #[PV x.inv, .int .i64 0]) (fun _ => rfl) rfl rfl (fun _ => by kernel_rfl) rfl,
    ob_extract (vs := #[PV x.inv, .int .i64 0]) (fun _ => rfl) rfl rfl (fun _ => by kernel_rfl) rfl,
    ob_alloc (v := PV 0) (fun _ => rfl) rfl rfl zeroP rfl,
    ob_store (old := PC 0) (fun _ => rfl) rfl rfl (fun _ => by kernel_rfl) (fun _ => by kernel_rfl) rfl (sizePC _) (PC_one _) (le_len (PC_len _) (PC_len _) (by decide)) (splice_all ((PC_len _).trans (PC_len _).symm)).symm,
    ob_assign (fun _ => rfl) rfl rfl (fun _ => by kernel_rfl),
    trivial⟩ (fun L4 w5 hp5 => ?_)
  refine k7 _ _ ?_
  refine wp_seq_k (fun K8 k8 => ?_)
  refine draws (by kernel_rfl) (ks := [.det (PV x), .det (PV y), .det (PV (x + y)), .det (PV x), .det (PV y), .det (PV (x + y)), .det (.bool true), .det (.bool true), .det (PV x), .det (PV y), .det (PV (x - y)), .det (PV x), .det (PV y), .det (PV (x - y)), .det (.bool true), .det (.bool true), .det (.bool true), .det (PV x), .det (PV (-x)), .det (PV x), .det (PV (-x)), .det (.bool true), .det (.bool true), .det (.bool true), .det (PV x), .det (PV y), .det (PV (x * y)), .det (PV x), .det (PV y), .det (PV (x * y)), .det (.bool true), .det (.bool true), .det (.bool true), .det (PV x), .det (PV x.conj), .det (PV x), .det (PV x.conj), .det (.bool true), .det (.bool true), .det (.bool true), .det (PV x), .det (.bool x.great), .det (PV x), .det (.bool x.great), .det (.bool true), .det (.bool true), .det (.bool true), .det (PV x), .det (.bool true), .det (.bool true), .det (.bool true), .det (PV x.inv), .det (PV x.inv), .det (.bool true), .det (.bool true), .det (.bool true), .det (.int .i64 0), .det (.int .i64 0), .det (.bool true), .det (.bool true), .det (.bool true)]) (T := [0, 0, 3, 0, 0, 31, 63, 127, 255, 255, 1023, 255, 255, 8191, 16383, 32767, 65535, 131071, 262143, 131071, 1048575, 2097151, 4194303, 8388607, 16777215, 16777215, 67108863, 16777215, 16777215, 536870911, 1073741823, 2147483647, 4294967295, 8589934591, 17179869183, 8589934591, 68719476735, 137438953471, 274877906943, 549755813887, 1099511627775, 2199023255551, 1099511627775, 8796093022207, 17592186044415, 35184372088831, 70368744177663, 140737488355327, 281474976710655, 562949953421311, 1125899906842623, 2251799813685247, 2251799813685247, 9007199254740991, 18014398509481983, 36028797018963967, 72057594037927935, 72057594037927935, 288230376151711743, 576460752303423487, 1152921504606846975]) (nt := 94) (nh := 4) (H := [((L0.b 0), PC x), ((L0.b 1), PC y), ((L3.b 5), PC x.inv), ((L4.b 5), PC x.inv)]) (A := fun L => [PV x, PV y, .pointer (some ⟨(L0.b 0), 0, none⟩), .pointer (some ⟨(L0.b 1), 0, none⟩), .bool true, .pointer (some ⟨(L3.b 5), 0, none⟩), .int .i64 0, .pointer (some ⟨(L4.b 5), 0, none⟩), .int .i64 0, .bool true, .bool false, PV x, .bool true, .bool false, .bool false, PV y, .bool true, .bool false, .bool false, undef, undef, undef, undef, undef, .tuple #[PV x.inv, .int .i64 0], PV x, .tuple #[PV x.inv, .int .i64 0], PV x.inv, .int .i64 0, .tuple #[PV x.inv, .int .i64 0], PV x, .tuple #[PV x.inv, .int .i64 0], PV x.inv, .int .i64 0, PV x, PV y, PV (x + y), PV x, PV y, PV (x + y), .bool true, .bool true, PV x, PV y, PV (x - y), PV x, PV y, PV (x - y), .bool true, .bool true, .bool true, PV x, PV (-x), PV x, PV (-x), .bool true, .bool true, .bool true, PV x, PV y, PV (x * y), PV x, PV y, PV (x * y), .bool true, .bool true, .bool true, PV x, PV x.conj, PV x, PV x.conj, .bool true, .bool true, .bool true, PV x, .bool x.great, PV x, .bool x.great, .bool true, .bool true, .bool true, PV x, .bool true, .bool true, .bool true, PV x.inv, PV x.inv, .bool true, .bool true, .bool true, .int .i64 0, .int .i64 0, .bool true, .bool true]) (H' := fun L => [((L0.b 0), PC x), ((L0.b 1), PC y), ((L3.b 5), PC x.inv), ((L4.b 5), PC x.inv)]) (by kernel_rfl) rfl rfl rfl (fun L => by kernel_rfl) (fun L => by kernel_rfl) hp5 ⟨
    ob_load (b := (L0.b 0)) (off := 0) (cs := PC x) (by kernel_rfl) (fun _ => rfl) rfl rfl (fun _ => by kernel_rfl) (fun _ _ hs => (seen_at (k := 0) hs rfl).cells) Tryd.underlying26 rfl (sizePC _),
    ob_load (b := (L0.b 1)) (off := 0) (cs := PC y) (by kernel_rfl) (fun _ => rfl) rfl rfl (fun _ => by kernel_rfl) (fun _ _ hs => (seen_at (k := 1) hs rfl).cells) Tryd.underlying26 rfl (sizePC _),
    ob_call (vs := #[PV x, PV y]) (by kernel_rfl) (by kernel_rfl) (fun _ => rfl) rfl rfl (fun _ => by kernel_rfl) (fun w hb _ => fp2Add K _ _ w (K.stay hg hb)),
    ob_load (b := (L0.b 0)) (off := 0) (cs := PC x) (by kernel_rfl) (fun _ => rfl) rfl rfl (fun _ => by kernel_rfl) (fun _ _ hs => (seen_at (k := 0) hs rfl).cells) Tryd.underlying26 rfl (sizePC _),
    ob_load (b := (L0.b 1)) (off := 0) (cs := PC y) (by kernel_rfl) (fun _ => rfl) rfl rfl (fun _ => by kernel_rfl) (fun _ _ hs => (seen_at (k := 1) hs rfl).cells) Tryd.underlying26 rfl (sizePC _),
    ob_call (vs := #[PV x, PV y]) (by kernel_rfl) (by kernel_rfl) (fun _ => rfl) rfl rfl (fun _ => by kernel_rfl) (fun w _ _ => ref5Add2 R _ _ w),
    ob_eq (u := PV (x + y)) (v := PV (x + y)) (fun _ => rfl) rfl rfl (fun _ => by kernel_rfl) (fun _ => by kernel_rfl) (fun w => guardP _ _ _ _ _ w) (fun w => (eqlP _ _ w).trans (by rw [decide_eq_true (rfl)]; try rfl)),
    ob_move (fun _ => rfl) rfl rfl (fun _ => by kernel_rfl),
    ob_load (b := (L0.b 0)) (off := 0) (cs := PC x) (by kernel_rfl) (fun _ => by kernel_rfl) rfl rfl (fun _ => by kernel_rfl) (fun _ _ hs => (seen_at (k := 0) hs rfl).cells) Tryd.underlying26 rfl (sizePC _),
    ob_load (b := (L0.b 1)) (off := 0) (cs := PC y) (by kernel_rfl) (fun _ => by kernel_rfl) rfl rfl (fun _ => by kernel_rfl) (fun _ _ hs => (seen_at (k := 1) hs rfl).cells) Tryd.underlying26 rfl (sizePC _),
    ob_call (vs := #[PV x, PV y]) (by kernel_rfl) (by kernel_rfl) (fun _ => by kernel_rfl) rfl rfl (fun _ => by kernel_rfl) (fun w hb _ => fp2Sub K _ _ w (K.stay hg hb)),
    ob_load (b := (L0.b 0)) (off := 0) (cs := PC x) (by kernel_rfl) (fun _ => by kernel_rfl) rfl rfl (fun _ => by kernel_rfl) (fun _ _ hs => (seen_at (k := 0) hs rfl).cells) Tryd.underlying26 rfl (sizePC _),
    ob_load (b := (L0.b 1)) (off := 0) (cs := PC y) (by kernel_rfl) (fun _ => by kernel_rfl) rfl rfl (fun _ => by kernel_rfl) (fun _ _ hs => (seen_at (k := 1) hs rfl).cells) Tryd.underlying26 rfl (sizePC _),
    ob_call (vs := #[PV x, PV y]) (by kernel_rfl) (by kernel_rfl) (fun _ => by kernel_rfl) rfl rfl (fun _ => by kernel_rfl) (fun w _ _ => ref5Sub2 R _ _ w),
    ob_eq (u := PV (x - y)) (v := PV (x - y)) (fun _ => by kernel_rfl) rfl rfl (fun _ => by kernel_rfl) (fun _ => by kernel_rfl) (fun w => guardP _ _ _ _ _ w) (fun w => (eqlP _ _ w).trans (by rw [decide_eq_true (rfl)]; try rfl)),
    ob_pickT (fun _ => rfl) rfl rfl (fun _ => by kernel_rfl) (fun _ => by kernel_rfl),
    ob_move (fun _ => rfl) rfl rfl (fun _ => by kernel_rfl),
    ob_load (b := (L0.b 0)) (off := 0) (cs := PC x) (by kernel_rfl) (fun _ => by kernel_rfl) rfl rfl (fun _ => by kernel_rfl) (fun _ _ hs => (seen_at (k := 0) hs rfl).cells) Tryd.underlying26 rfl (sizePC _),
    ob_call (vs := #[PV x]) (by kernel_rfl) (by kernel_rfl) (fun _ => by kernel_rfl) rfl rfl (fun _ => by kernel_rfl) (fun w hb _ => fp2Neg K _ w (K.stay hg hb)),
    ob_load (b := (L0.b 0)) (off := 0) (cs := PC x) (by kernel_rfl) (fun _ => by kernel_rfl) rfl rfl (fun _ => by kernel_rfl) (fun _ _ hs => (seen_at (k := 0) hs rfl).cells) Tryd.underlying26 rfl (sizePC _),
    ob_call (vs := #[PV x]) (by kernel_rfl) (by kernel_rfl) (fun _ => by kernel_rfl) rfl rfl (fun _ => by kernel_rfl) (fun w _ _ => ref5Neg2 R _ w),
    ob_eq (u := PV (-x)) (v := PV (-x)) (fun _ => by kernel_rfl) rfl rfl (fun _ => by kernel_rfl) (fun _ => by kernel_rfl) (fun w => guardP _ _ _ _ _ w) (fun w => (eqlP _ _ w).trans (by rw [decide_eq_true (rfl)]; try rfl)),
    ob_pickT (fun _ => rfl) rfl rfl (fun _ => by kernel_rfl) (fun _ => by kernel_rfl),
    ob_move (fun _ => rfl) rfl rfl (fun _ => by kernel_rfl),
    ob_load (b := (L0.b 0)) (off := 0) (cs := PC x) (by kernel_rfl) (fun _ => by kernel_rfl) rfl rfl (fun _ => by kernel_rfl) (fun _ _ hs => (seen_at (k := 0) hs rfl).cells) Tryd.underlying26 rfl (sizePC _),
    ob_load (b := (L0.b 1)) (off := 0) (cs := PC y) (by kernel_rfl) (fun _ => by kernel_rfl) rfl rfl (fun _ => by kernel_rfl) (fun _ _ hs => (seen_at (k := 1) hs rfl).cells) Tryd.underlying26 rfl (sizePC _),
    ob_call (vs := #[PV x, PV y]) (by kernel_rfl) (by kernel_rfl) (fun _ => by kernel_rfl) rfl rfl (fun _ => by kernel_rfl) (fun w hb _ => fp2Mul K _ _ w (K.stay hg hb)),
    ob_load (b := (L0.b 0)) (off := 0) (cs := PC x) (by kernel_rfl) (fun _ => by kernel_rfl) rfl rfl (fun _ => by kernel_rfl) (fun _ _ hs => (seen_at (k := 0) hs rfl).cells) Tryd.underlying26 rfl (sizePC _),
    ob_load (b := (L0.b 1)) (off := 0) (cs := PC y) (by kernel_rfl) (fun _ => by kernel_rfl) rfl rfl (fun _ => by kernel_rfl) (fun _ _ hs => (seen_at (k := 1) hs rfl).cells) Tryd.underlying26 rfl (sizePC _),
    ob_call (vs := #[PV x, PV y]) (by kernel_rfl) (by kernel_rfl) (fun _ => by kernel_rfl) rfl rfl (fun _ => by kernel_rfl) (fun w _ _ => ref5Mul2 R _ _ w),
    ob_eq (u := PV (x * y)) (v := PV (x * y)) (fun _ => by kernel_rfl) rfl rfl (fun _ => by kernel_rfl) (fun _ => by kernel_rfl) (fun w => guardP _ _ _ _ _ w) (fun w => (eqlP _ _ w).trans (by rw [decide_eq_true (rfl)]; try rfl)),
    ob_pickT (fun _ => rfl) rfl rfl (fun _ => by kernel_rfl) (fun _ => by kernel_rfl),
    ob_move (fun _ => rfl) rfl rfl (fun _ => by kernel_rfl),
    ob_load (b := (L0.b 0)) (off := 0) (cs := PC x) (by kernel_rfl) (fun _ => by kernel_rfl) rfl rfl (fun _ => by kernel_rfl) (fun _ _ hs => (seen_at (k := 0) hs rfl).cells) Tryd.underlying26 rfl (sizePC _),
    ob_call (vs := #[PV x]) (by kernel_rfl) (by kernel_rfl) (fun _ => by kernel_rfl) rfl rfl (fun _ => by kernel_rfl) (fun w hb _ => fp2Conj K _ w (K.stay hg hb)),
    ob_load (b := (L0.b 0)) (off := 0) (cs := PC x) (by kernel_rfl) (fun _ => by kernel_rfl) rfl rfl (fun _ => by kernel_rfl) (fun _ _ hs => (seen_at (k := 0) hs rfl).cells) Tryd.underlying26 rfl (sizePC _),
    ob_call (vs := #[PV x]) (by kernel_rfl) (by kernel_rfl) (fun _ => by kernel_rfl) rfl rfl (fun _ => by kernel_rfl) (fun w _ _ => ref5Conj2 R _ w),
    ob_eq (u := PV x.conj) (v := PV x.conj) (fun _ => by kernel_rfl) rfl rfl (fun _ => by kernel_rfl) (fun _ => by kernel_rfl) (fun w => guardP _ _ _ _ _ w) (fun w => (eqlP _ _ w).trans (by rw [decide_eq_true (rfl)]; try rfl)),
    ob_pickT (fun _ => rfl) rfl rfl (fun _ => by kernel_rfl) (fun _ => by kernel_rfl),
    ob_move (fun _ => rfl) rfl rfl (fun _ => by kernel_rfl),
    ob_load (b := (L0.b 0)) (off := 0) (cs := PC x) (by kernel_rfl) (fun _ => by kernel_rfl) rfl rfl (fun _ => by kernel_rfl) (fun _ _ hs => (seen_at (k := 0) hs rfl).cells) Tryd.underlying26 rfl (sizePC _),
    ob_call (vs := #[PV x]) (by kernel_rfl) (by kernel_rfl) (fun _ => by kernel_rfl) rfl rfl (fun _ => by kernel_rfl) (fun w hb _ => fp2Great K _ w (K.stay hg hb)),
    ob_load (b := (L0.b 0)) (off := 0) (cs := PC x) (by kernel_rfl) (fun _ => by kernel_rfl) rfl rfl (fun _ => by kernel_rfl) (fun _ _ hs => (seen_at (k := 0) hs rfl).cells) Tryd.underlying26 rfl (sizePC _),
    ob_call (vs := #[PV x]) (by kernel_rfl) (by kernel_rfl) (fun _ => by kernel_rfl) rfl rfl (fun _ => by kernel_rfl) (fun w _ _ => ref5Great2 R _ w),
    ob_eq (u := .bool x.great) (v := .bool x.great) (fun _ => by kernel_rfl) rfl rfl (fun _ => by kernel_rfl) (fun _ => by kernel_rfl) (fun w => guardB _ _ _ _ _ _ w) (fun w => (eqlB _ _ w).trans (by simp)),
    ob_pickT (fun _ => rfl) rfl rfl (fun _ => by kernel_rfl) (fun _ => by kernel_rfl),
    ob_move (fun _ => rfl) rfl rfl (fun _ => by kernel_rfl),
    ob_load (b := (L0.b 0)) (off := 0) (cs := PC x) (by kernel_rfl) (fun _ => by kernel_rfl) rfl rfl (fun _ => by kernel_rfl) (fun _ _ hs => (seen_at (k := 0) hs rfl).cells) Tryd.underlying26 rfl (sizePC _),
    ob_call (vs := #[PV x]) (by kernel_rfl) (by kernel_rfl) (fun _ => by kernel_rfl) rfl rfl (fun _ => by kernel_rfl) (fun w hb _ => fp2MayP K _ w (K.stay hg hb)),
    ob_pickT (fun _ => rfl) rfl rfl (fun _ => by kernel_rfl) (fun _ => by kernel_rfl),
    ob_move (fun _ => rfl) rfl rfl (fun _ => by kernel_rfl),
    ob_load (b := (L3.b 5)) (off := 0) (cs := PC x.inv) (by kernel_rfl) (fun _ => by kernel_rfl) rfl rfl (fun _ => by kernel_rfl) (fun _ _ hs => (seen_at (k := 2) hs rfl).cells) Tryd.underlying26 rfl (sizePC _),
    ob_load (b := (L4.b 5)) (off := 0) (cs := PC x.inv) (by kernel_rfl) (fun _ => by kernel_rfl) rfl rfl (fun _ => by kernel_rfl) (fun _ _ hs => (seen_at (k := 3) hs rfl).cells) Tryd.underlying26 rfl (sizePC _),
    ob_eq (u := PV x.inv) (v := PV x.inv) (fun _ => by kernel_rfl) rfl rfl (fun _ => by kernel_rfl) (fun _ => by kernel_rfl) (fun w => guardP _ _ _ _ _ w) (fun w => (eqlP _ _ w).trans (by rw [decide_eq_true (rfl)]; try rfl)),
    ob_pickT (fun _ => rfl) rfl rfl (fun _ => by kernel_rfl) (fun _ => by kernel_rfl),
    ob_move (fun _ => rfl) rfl rfl (fun _ => by kernel_rfl),
    ob_move (fun _ => by kernel_rfl) rfl rfl (fun _ => by kernel_rfl),
    ob_move (fun _ => by kernel_rfl) rfl rfl (fun _ => by kernel_rfl),
    ob_eq (u := .int .i64 0) (v := .int .i64 0) (fun _ => by kernel_rfl) rfl rfl (fun _ => by kernel_rfl) (fun _ => by kernel_rfl) (fun w => guardI _ _ _ _ _ _ _ _ w) (fun w => (eqlI _ _ _ _ w).trans rfl),
    ob_pickT (fun _ => rfl) rfl rfl (fun _ => by kernel_rfl) (fun _ => by kernel_rfl),
    ob_assign (fun _ => rfl) rfl rfl (fun _ => by kernel_rfl),
    trivial⟩ (fun L5 w6 hp6 => ?_)
  refine k8 _ _ ?_
  refine wp_ret ?_
  exact bodyPost_ret (v := .bool true) (res_t rfl (by kernel_rfl) _) rfl ⟨rfl, hp6.bel⟩
/-- What Fp2All answers. -/
theorem fp2All_walk {G : World → Prop} (K : FpK G) (R : RefK) (hH : ∀ w, G w → w.rangeAt 2 0 (FC hf)) (f g f2 g2 : Nat → Int) (rf : Rg f 6) (rg : Rg g 6) (rf2 : Rg f2 6) (rg2 : Rg g2 6) (w : World) (hg : G w) :
    Calls Tryd.prog 3 #[QV2 f g, QV2 f2 g2] w (Ret (.bool true) w) := by
  have hB := fun w hg => begun5 K w hg hH
  by_cases lf : val f 6 < RI
  · by_cases lg : val g 6 < RI
    · by_cases lf2 : val f2 6 < RI
      · by_cases lg2 : val g2 6 < RI
        · obtain ⟨a, ha, -⟩ := num_of rf lf
          obtain ⟨b, hb, -⟩ := num_of rg lg
          obtain ⟨a2, ha2, -⟩ := num_of rf2 lf2
          obtain ⟨b2, hb2, -⟩ := num_of rg2 lg2
          rw [QV2_of (x := ⟨a, b⟩) ha hb, QV2_of (x := ⟨a2, b2⟩) ha2 hb2]
          by_cases hn : (⟨a, b⟩ : F2).norm = 0
          · exact all2 K R _ _ w hg hB hn
          · exact all3 K R _ _ w hg hB hn
        · exact all1 K R f g f2 g2 w hg hB (fun w _ => ref5May2 R f g w rf rg lf lg) (fun w hg => fp2May K f g w hg rf rg lf lg) (fun w _ => ref5May21 R f2 g2 w rf2 rg2 lf2 lg2)
      · exact all1 K R f g f2 g2 w hg hB (fun w _ => ref5May2 R f g w rf rg lf lg) (fun w hg => fp2May K f g w hg rf rg lf lg) (fun w _ => ref5May20 R f2 g2 w rf2 lf2)
    · exact all0 K R f g f2 g2 w hg hB (fun w _ => ref5May21 R f g w rf rg lf lg) (fun w hg => fp2May1 K f g w hg rf rg lf lg)
  · exact all0 K R f g f2 g2 w hg hB (fun w _ => ref5May20 R f g w rf lf) (fun w hg => fp2May0 K f g w hg rf lf)
end Go.Proofs.YtgoghcmnnhglhaaDoor.fpn
