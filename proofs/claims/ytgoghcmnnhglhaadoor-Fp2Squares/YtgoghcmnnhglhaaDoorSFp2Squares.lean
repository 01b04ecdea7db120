/- Fp2SquaresWalk. -/
import Derived.Test.YtgoghcmnnhglhaaDoorGH
import Derived.Test.YtgoghcmnnhglhaaDoorGJ
import Derived.Test.YtgoghcmnnhglhaaDoorGK
import Derived.Test.YtgoghcmnnhglhaaDoorGI
/- Fp2Squares walked. -/
namespace Go.Proofs.YtgoghcmnnhglhaaDoor.fpn
open Go.RowKit Pl
set_option linter.unusedVariables false
set_option linter.unusedSimpArgs false
set_option maxRecDepth 4000

set_option maxHeartbeats 4000000 in
theorem sqs0 {G : World → Prop} (K : FpK G) (R : RefK) (f g : Nat → Int) (k : Int) (w : World) (hg : G w) (hB : ∀ w, G w → Calls Tryd.prog 7 #[] w (Ret (.bool true) w)) (hm : ∀ w, G w → Calls Tryd.prog 8 #[QV2 f g] w (Ret (.bool false) w)) : Calls Tryd.prog 6 #[QV2 f g, .int .u8 k] w (Ret (.bool true) w) := by
  have hp0 := Heap.start w
  go_enter Tryd.func6, Tryd.ntmps6
  refine wp_seq_k (fun K1 k1 => ?_)
  refine goes (ks := [.alloc (QC2 f g), .det (.bool false)]) (T := [0, 0]) (nt := 77) (nh := 0) (H := []) (A := fun L => [QV2 f g, .int .u8 k, .pointer (some ⟨L.b 0, 0, none⟩), undef, .bool false, undef, undef, undef, undef, undef, undef, undef, undef, undef, undef, undef, undef, undef, undef, undef, undef, undef, undef, undef, undef, undef, undef, undef, undef, undef, undef, undef, undef, undef, undef, undef, undef, undef, undef, undef, undef, undef, undef, undef, undef, undef, undef, undef, undef, undef, undef, undef, undef, undef, undef, undef, undef, undef, undef, undef, undef, undef, undef, undef, undef, undef, undef, undef, undef, undef, undef, undef, undef, undef, undef, undef, undef]) (H' := fun L => [(L.b 0, QC2 f g)]) (by kernel_rfl) rfl rfl rfl (fun L => by kernel_rfl) (fun L => by kernel_rfl) hp0 ⟨
    ob_box (v := QV2 f g) (fun _ => rfl) rfl rfl (fun _ => by kernel_rfl) rfl,
    ob_assign (fun _ => rfl) rfl rfl (fun _ => by kernel_rfl),
    trivial⟩ (fun L0 w1 hp1 => ?_)
  refine k1 _ _ ?_
  refine wp_seq_k (fun K2 k2 => ?_)
  refine wp_seq_k (fun K3 k3 => ?_)
  refine goes (ks := [.det (.bool true), .det (.bool false)]) (T := [0, 1]) (nt := 77) (nh := 1) (H := [((L0.b 0), QC2 f g)]) (A := fun L => [QV2 f g, .int .u8 k, .pointer (some ⟨(L0.b 0), 0, none⟩), undef, .bool false, undef, undef, undef, undef, .bool true, .bool false, undef, undef, undef, undef, undef, undef, undef, undef, undef, undef, undef, undef, undef, undef, undef, undef, undef, undef, undef, undef, undef, undef, undef, undef, undef, undef, undef, undef, undef, undef, undef, undef, undef, undef, undef, undef, undef, undef, undef, undef, undef, undef, undef, undef, undef, undef, undef, undef, undef, undef, undef, undef, undef, undef, undef, undef, undef, undef, undef, undef, undef, undef, undef, undef, undef, undef]) (H' := fun L => [((L0.b 0), QC2 f g)]) (by kernel_rfl) rfl rfl rfl (fun L => by kernel_rfl) (fun L => by kernel_rfl) hp1 ⟨
    ob_call (vs := #[]) (by kernel_rfl) (by kernel_rfl) (fun _ => rfl) rfl rfl (fun _ => by kernel_rfl) (fun w hb _ => hB w (K.stay hg hb)),
    ob_not (b := true) (fun _ => rfl) rfl rfl (fun _ => by kernel_rfl),
    trivial⟩ (fun L1 w2 hp2 => ?_)
  refine k3 _ _ ?_
  refine wp_cond_false (by kernel_rfl) ?_
  refine skips ?_
  refine k2 _ _ ?_
  refine wp_seq_k (fun K4 k4 => ?_)
  refine wp_seq_k (fun K5 k5 => ?_)
  refine goes (ks := [.det (QV2 f g), .det (.bool false), .det (.bool true)]) (T := [0, 1, 3]) (nt := 77) (nh := 1) (H := [((L0.b 0), QC2 f g)]) (A := fun L => [QV2 f g, .int .u8 k, .pointer (some ⟨(L0.b 0), 0, none⟩), undef, .bool false, undef, undef, undef, undef, .bool true, .bool false, QV2 f g, .bool false, .bool true, undef, undef, undef, undef, undef, undef, undef, undef, undef, undef, undef, undef, undef, undef, undef, undef, undef, undef, undef, undef, undef, undef, undef, undef, undef, undef, undef, undef, undef, undef, undef, undef, undef, undef, undef, undef, undef, undef, undef, undef, undef, undef, undef, undef, undef, undef, undef, undef, undef, undef, undef, undef, undef, undef, undef, undef, undef, undef, undef, undef, undef, undef, undef]) (H' := fun L => [((L0.b 0), QC2 f g)]) (by kernel_rfl) rfl rfl rfl (fun L => by kernel_rfl) (fun L => by kernel_rfl) hp2 ⟨
    ob_load (b := (L0.b 0)) (off := 0) (cs := QC2 f g) (by kernel_rfl) (fun _ => rfl) rfl rfl (fun _ => by kernel_rfl) (fun _ _ hs => (seen_at (k := 0) hs rfl).cells) Tryd.underlying26 rfl (sizeQC2 _ _),
    ob_call (vs := #[QV2 f g]) (by kernel_rfl) (by kernel_rfl) (fun _ => rfl) rfl rfl (fun _ => by kernel_rfl) (fun w hb _ => hm w (K.stay hg hb)),
    ob_not (b := false) (fun _ => rfl) rfl rfl (fun _ => by kernel_rfl),
    trivial⟩ (fun L2 w3 hp3 => ?_)
  refine k5 _ _ ?_
  refine wp_cond_true (by kernel_rfl) ?_
  refine wp_seq_k (fun K6 k6 => ?_)
  refine goes (ks := [.det (.bool true)]) (T := [0]) (nt := 77) (nh := 1) (H := [((L0.b 0), QC2 f g)]) (A := fun L => [QV2 f g, .int .u8 k, .pointer (some ⟨(L0.b 0), 0, none⟩), undef, .bool true, undef, undef, undef, undef, .bool true, .bool false, QV2 f g, .bool false, .bool true, undef, undef, undef, undef, undef, undef, undef, undef, undef, undef, undef, undef, undef, undef, undef, undef, undef, undef, undef, undef, undef, undef, undef, undef, undef, undef, undef, undef, undef, undef, undef, undef, undef, undef, undef, undef, undef, undef, undef, undef, undef, undef, undef, undef, undef, undef, undef, undef, undef, undef, undef, undef, undef, undef, undef, undef, undef, undef, undef, undef, undef, undef, undef]) (H' := fun L => [((L0.b 0), QC2 f g)]) (by kernel_rfl) rfl rfl rfl (fun L => by kernel_rfl) (fun L => by kernel_rfl) hp3 ⟨
    ob_assign (fun _ => rfl) rfl rfl (fun _ => by kernel_rfl),
    trivial⟩ (fun L3 w4 hp4 => ?_)
  refine k6 _ _ ?_
  refine wp_ret ?_
  exact bodyPost_ret (v := .bool true) (res_t rfl (by kernel_rfl) _) rfl ⟨rfl, hp4.bel⟩
set_option maxHeartbeats 4000000 in
theorem sqsa0 {G : World → Prop} (K : FpK G) (R : RefK) (x y r s : F2) (k m : Int) (w : World) (hg : G w) (hH : ∀ w, G w → w.rangeAt 2 0 (FC hf)) (hB : ∀ w, G w → Calls Tryd.prog 7 #[] w (Ret (.bool true) w)) (kl : 0 ≤ k) (ku : k < 256) (hm : k % 4 = m) (m1 : m ≠ 1) (m2 : m ≠ 2) (hr : (x * x).sq2 = r) (hri : (x * x).is2 = true) (hs : x.sq2 = s) (hsi : x.is2 = true) (hss : s * s = x) (hy : -x = y) (hgr : r.great = false) (hgz : x.great = false) (h0 : x = 0) (hrz : r = x) : Calls Tryd.prog 6 #[PV x, .int .u8 k] w (Ret (.bool true) w) := by
  have hp0 := Heap.start w
  go_enter Tryd.func6, Tryd.ntmps6
  refine wp_seq_k (fun K1 k1 => ?_)
  refine goes (ks := [.alloc (PC x), .det (.bool false)]) (T := [0, 0]) (nt := 77) (nh := 0) (H := []) (A := fun L => [PV x, .int .u8 k, .pointer (some ⟨L.b 0, 0, none⟩), undef, .bool false, undef, undef, undef, undef, undef, undef, undef, undef, undef, undef, undef, undef, undef, undef, undef, undef, undef, undef, undef, undef, undef, undef, undef, undef, undef, undef, undef, undef, undef, undef, undef, undef, undef, undef, undef, undef, undef, undef, undef, undef, undef, undef, undef, undef, undef, undef, undef, undef, undef, undef, undef, undef, undef, undef, undef, undef, undef, undef, undef, undef, undef, undef, undef, undef, undef, undef, undef, undef, undef, undef, undef, undef]) (H' := fun L => [(L.b 0, PC x)]) (by kernel_rfl) rfl rfl rfl (fun L => by kernel_rfl) (fun L => by kernel_rfl) hp0 ⟨
    ob_box (v := PV x) (fun _ => rfl) rfl rfl (fun _ => by kernel_rfl) rfl,
    ob_assign (fun _ => rfl) rfl rfl (fun _ => by kernel_rfl),
    trivial⟩ (fun L0 w1 hp1 => ?_)
  refine k1 _ _ ?_
  refine wp_seq_k (fun K2 k2 => ?_)
  refine wp_seq_k (fun K3 k3 => ?_)
  refine goes (ks := [.det (.bool true), .det (.bool false)]) (T := [0, 1]) (nt := 77) (nh := 1) (H := [((L0.b 0), PC x)]) (A := fun L => [PV x, .int .u8 k, .pointer (some ⟨(L0.b 0), 0, none⟩), undef, .bool false, undef, undef, undef, undef, .bool true, .bool false, undef, undef, undef, undef, undef, undef, undef, undef, undef, undef, undef, undef, undef, undef, undef, undef, undef, undef, undef, undef, undef, undef, undef, undef, undef, undef, undef, undef, undef, undef, undef, undef, undef, undef, undef, undef, undef, undef, undef, undef, undef, undef, undef, undef, undef, undef, undef, undef, undef, undef, undef, undef, undef, undef, undef, undef, undef, undef, undef, undef, undef, undef, undef, undef, undef, undef]) (H' := fun L => [((L0.b 0), PC x)]) (by kernel_rfl) rfl rfl rfl (fun L => by kernel_rfl) (fun L => by kernel_rfl) hp1 ⟨
    ob_call (vs := #[]) (by kernel_rfl) (by kernel_rfl) (fun _ => rfl) rfl rfl (fun _ => by kernel_rfl) (fun w hb _ => hB w (K.stay hg hb)),
    ob_not (b := true) (fun _ => rfl) rfl rfl (fun _ => by kernel_rfl),
    trivial⟩ (fun L1 w2 hp2 => ?_)
  refine k3 _ _ ?_
  refine wp_cond_false (by kernel_rfl) ?_
  refine skips ?_
  refine k2 _ _ ?_
  refine wp_seq_k (fun K4 k4 => ?_)
  refine wp_seq_k (fun K5 k5 => ?_)
  refine goes (ks := [.det (PV x), .det (.bool true), .det (.bool false)]) (T := [0, 1, 3]) (nt := 77) (nh := 1) (H := [((L0.b 0), PC x)]) (A := fun L => [PV x, .int .u8 k, .pointer (some ⟨(L0.b 0), 0, none⟩), undef, .bool false, undef, undef, undef, undef, .bool true, .bool false, PV x, .bool true, .bool false, undef, undef, undef, undef, undef, undef, undef, undef, undef, undef, undef, undef, undef, undef, undef, undef, undef, undef, undef, undef, undef, undef, undef, undef, undef, undef, undef, undef, undef, undef, undef, undef, undef, undef, undef, undef, undef, undef, undef, undef, undef, undef, undef, undef, undef, undef, undef, undef, undef, undef, undef, undef, undef, undef, undef, undef, undef, undef, undef, undef, undef, undef, undef]) (H' := fun L => [((L0.b 0), PC x)]) (by kernel_rfl) rfl rfl rfl (fun L => by kernel_rfl) (fun L => by kernel_rfl) hp2 ⟨
    ob_load (b := (L0.b 0)) (off := 0) (cs := PC x) (by kernel_rfl) (fun _ => rfl) rfl rfl (fun _ => by kernel_rfl) (fun _ _ hs => (seen_at (k := 0) hs rfl).cells) Tryd.underlying26 rfl (sizePC _),
    ob_call (vs := #[PV x]) (by kernel_rfl) (by kernel_rfl) (fun _ => rfl) rfl rfl (fun _ => by kernel_rfl) (fun w _ _ => ref5MayP R _ w),
    ob_not (b := true) (fun _ => rfl) rfl rfl (fun _ => by kernel_rfl),
    trivial⟩ (fun L2 w3 hp3 => ?_)
  refine k5 _ _ ?_
  refine wp_cond_false (by kernel_rfl) ?_
  refine skips ?_
  refine k4 _ _ ?_
  refine wp_seq_k (fun K6 k6 => ?_)
  refine wp_seq_k (fun K7 k7 => ?_)
  refine goes (ks := [.det (.int .u8 k), .det (.int .u8 m), .det (.bool false)]) (T := [0, 1, 3]) (nt := 77) (nh := 1) (H := [((L0.b 0), PC x)]) (A := fun L => [PV x, .int .u8 k, .pointer (some ⟨(L0.b 0), 0, none⟩), undef, .bool false, undef, undef, undef, undef, .bool true, .bool false, PV x, .bool true, .bool false, .int .u8 k, .int .u8 m, .bool false, undef, undef, undef, undef, undef, undef, undef, undef, undef, undef, undef, undef, undef, undef, undef, undef, undef, undef, undef, undef, undef, undef, undef, undef, undef, undef, undef, undef, undef, undef, undef, undef, undef, undef, undef, undef, undef, undef, undef, undef, undef, undef, undef, undef, undef, undef, undef, undef, undef, undef, undef, undef, undef, undef, undef, undef, undef, undef, undef, undef]) (H' := fun L => [((L0.b 0), PC x)]) (by kernel_rfl) rfl rfl rfl (fun L => by kernel_rfl) (fun L => by kernel_rfl) hp3 ⟨
    ob_move (fun _ => rfl) rfl rfl (fun _ => by kernel_rfl),
    ob_bin (u := .int .u8 k) (v := .int .u8 4) (fun _ => rfl) rfl rfl (fun _ => by kernel_rfl) (fun _ => by kernel_rfl) (fun w => guardI _ _ _ _ _ _ _ _ w) (fun w => rem4 _ _ _ kl ku hm w),
    ob_bin (u := .int .u8 m) (v := .int .u8 1) (fun _ => rfl) rfl rfl (fun _ => by kernel_rfl) (fun _ => by kernel_rfl) (fun w => guardI _ _ _ _ _ _ _ _ w) (fun w => (eqlI _ _ _ _ w).trans (by rw [decide_eq_false m1])),
    trivial⟩ (fun L3 w4 hp4 => ?_)
  refine k7 _ _ ?_
  refine wp_cond_false (by kernel_rfl) ?_
  refine wp_seq_k (fun K8 k8 => ?_)
  refine goes (ks := [.det (.int .u8 k), .det (.int .u8 m), .det (.bool false)]) (T := [0, 1, 3]) (nt := 77) (nh := 1) (H := [((L0.b 0), PC x)]) (A := fun L => [PV x, .int .u8 k, .pointer (some ⟨(L0.b 0), 0, none⟩), undef, .bool false, undef, undef, undef, undef, .bool true, .bool false, PV x, .bool true, .bool false, .int .u8 k, .int .u8 m, .bool false, undef, undef, .int .u8 k, .int .u8 m, .bool false, undef, undef, undef, undef, undef, undef, undef, undef, undef, undef, undef, undef, undef, undef, undef, undef, undef, undef, undef, undef, undef, undef, undef, undef, undef, undef, undef, undef, undef, undef, undef, undef, undef, undef, undef, undef, undef, undef, undef, undef, undef, undef, undef, undef, undef, undef, undef, undef, undef, undef, undef, undef, undef, undef, undef]) (H' := fun L => [((L0.b 0), PC x)]) (by kernel_rfl) rfl rfl rfl (fun L => by kernel_rfl) (fun L => by kernel_rfl) hp4 ⟨
    ob_move (fun _ => rfl) rfl rfl (fun _ => by kernel_rfl),
    ob_bin (u := .int .u8 k) (v := .int .u8 4) (fun _ => rfl) rfl rfl (fun _ => by kernel_rfl) (fun _ => by kernel_rfl) (fun w => guardI _ _ _ _ _ _ _ _ w) (fun w => rem4 _ _ _ kl ku hm w),
    ob_bin (u := .int .u8 m) (v := .int .u8 2) (fun _ => rfl) rfl rfl (fun _ => by kernel_rfl) (fun _ => by kernel_rfl) (fun w => guardI _ _ _ _ _ _ _ _ w) (fun w => (eqlI _ _ _ _ w).trans (by rw [decide_eq_false m2])),
    trivial⟩ (fun L4 w5 hp5 => ?_)
  refine k8 _ _ ?_
  refine wp_cond_false (by kernel_rfl) ?_
  refine skips ?_
  refine k6 _ _ ?_
  refine wp_seq_k (fun K9 k9 => ?_)
  refine goes (ks := [.det (PV x), .det (PV x), .det (PV (x * x)), .det (.tuple #[PV r, .bool true]), .det (.tuple #[PV r, .bool true]), .det (PV r), .det (.bool true), .alloc (PC 0), .store (.new 7) 0 (PC r) (PC r), .det (.bool true)]) (T := [0, 0, 3, 7, 15, 31, 31, 0, 191, 511]) (nt := 77) (nh := 1) (H := [((L0.b 0), PC x)]) (A := fun L => [PV x, .int .u8 k, .pointer (some ⟨(L0.b 0), 0, none⟩), undef, .bool false, .pointer (some ⟨L.b 7, 0, none⟩), .bool true, undef, undef, .bool true, .bool false, PV x, .bool true, .bool false, .int .u8 k, .int .u8 m, .bool false, undef, undef, .int .u8 k, .int .u8 m, .bool false, undef, undef, .tuple #[PV r, .bool true], PV x, PV x, PV (x * x), .tuple #[PV r, .bool true], PV r, .bool true, undef, undef, undef, undef, undef, undef, undef, undef, undef, undef, undef, undef, undef, undef, undef, undef, undef, undef, undef, undef, undef, undef, undef, undef, undef, undef, undef, undef, undef, undef, undef, undef, undef, undef, undef, undef, undef, undef, undef, undef, undef, undef, undef, undef, undef, undef]) (H' := fun L => [((L0.b 0), PC x), (L.b 7, PC r)]) (by kernel_rfl) rfl rfl rfl (fun L => by kernel_rfl) (fun L => by kernel_rfl) hp5 ⟨
    ob_load (b := (L0.b 0)) (off := 0) (cs := PC x) (by kernel_rfl) (fun _ => rfl) rfl rfl (fun _ => by kernel_rfl) (fun _ _ hs => (seen_at (k := 0) hs rfl).cells) Tryd.underlying26 rfl (sizePC _),
    ob_load (b := (L0.b 0)) (off := 0) (cs := PC x) (by kernel_rfl) (fun _ => rfl) rfl rfl (fun _ => by kernel_rfl) (fun _ _ hs => (seen_at (k := 0) hs rfl).cells) Tryd.underlying26 rfl (sizePC _),
    ob_call (vs := #[PV x, PV x]) (by kernel_rfl) (by kernel_rfl) (fun _ => rfl) rfl rfl (fun _ => by kernel_rfl) (fun w hb _ => fp2Mul K _ _ w (K.stay hg hb)),
    ob_call (vs := #[PV (x * x)]) (by kernel_rfl) (by kernel_rfl) (fun _ => rfl) rfl rfl (fun _ => by kernel_rfl) (fun w hb _ => by have e := fp2Sqrt K (x * x) w (K.stay hg hb) hH; rw [hr, hri] at e; exact e),
    ob_move (fun _ => rfl) rfl rfl (fun _ => by kernel_rfl),
    ob_extract (vs := #[PV r, .bool true]) (fun _ => rfl) rfl rfl (fun _ => by kernel_rfl) rfl,
    ob_extract (vs := #[PV r, .bool true]) (fun _ => rfl) rfl rfl (fun _ => by kernel_rfl) rfl,
    ob_alloc (v := PV 0) (fun _ => rfl) rfl rfl zeroP rfl,
    ob_store (old := PC 0) (fun _ => rfl) rfl rfl (fun _ => by kernel_rfl) (fun _ => by kernel_rfl) rfl (sizePC _) (PC_one _) (le_len (PC_len _) (PC_len _) (by decide)) (splice_all ((PC_len _).trans (PC_len _).symm)).symm,
    ob_assign (fun _ => rfl) rfl rfl (fun _ => by kernel_rfl),
    trivial⟩ (fun L5 w6 hp6 => ?_)
  refine k9 _ _ ?_
  refine wp_seq_k (fun K10 k10 => ?_)
  refine goes (ks := [.det (PV x), .det (.tuple #[PV s, .bool true]), .det (.tuple #[PV s, .bool true]), .det (PV s), .det (.bool true), .alloc (PC 0), .store (.new 5) 0 (PC s) (PC s), .det (.bool true)]) (T := [0, 1, 3, 7, 7, 0, 47, 127]) (nt := 77) (nh := 2) (H := [((L0.b 0), PC x), ((L5.b 7), PC r)]) (A := fun L => [PV x, .int .u8 k, .pointer (some ⟨(L0.b 0), 0, none⟩), undef, .bool false, .pointer (some ⟨(L5.b 7), 0, none⟩), .bool true, .pointer (some ⟨L.b 5, 0, none⟩), .bool true, .bool true, .bool false, PV x, .bool true, .bool false, .int .u8 k, .int .u8 m, .bool false, undef, undef, .int .u8 k, .int .u8 m, .bool false, undef, undef, .tuple #[PV r, .bool true], PV x, PV x, PV (x * x), .tuple #[PV r, .bool true], PV r, .bool true, .tuple #[PV s, .bool true], PV x, .tuple #[PV s, .bool true], PV s, .bool true, undef, undef, undef, undef, undef, undef, undef, undef, undef, undef, undef, undef, undef, undef, undef, undef, undef, undef, undef, undef, undef, undef, undef, undef, undef, undef, undef, undef, undef, undef, undef, undef, undef, undef, undef, undef, undef, undef, undef, undef, undef]) (H' := fun L => [((L0.b 0), PC x), ((L5.b 7), PC r), (L.b 5, PC s)]) (by kernel_rfl) rfl rfl rfl (fun L => by kernel_rfl) (fun L => by kernel_rfl) hp6 ⟨
    ob_load (b := (L0.b 0)) (off := 0) (cs := PC x) (by kernel_rfl) (fun _ => rfl) rfl rfl (fun _ => by kernel_rfl) (fun _ _ hs => (seen_at (k := 0) hs rfl).cells) Tryd.underlying26 rfl (sizePC _),
    ob_call (vs := #[PV x]) (by kernel_rfl) (by kernel_rfl) (fun _ => rfl) rfl rfl (fun _ => by kernel_rfl) (fun w hb _ => by have e := fp2Sqrt K x w (K.stay hg hb) hH; rw [hs, hsi] at e; exact e),
    ob_move (fun _ => rfl) rfl rfl (fun _ => by kernel_rfl),
    ob_extract (vs := #[PV s, .bool true]) (fun _ => rfl) rfl rfl (fun _ => by kernel_rfl) rfl,
    ob_extract (vs := #[PV s, .bool true]) (fun _ => rfl) rfl rfl (fun _ => by kernel_rfl) rfl,
    ob_alloc (v := PV 0) (fun _ => rfl) rfl rfl zeroP rfl,
    ob_store (old := PC 0) (fun _ => rfl) rfl rfl (fun _ => by kernel_rfl) (fun _ => by kernel_rfl) rfl (sizePC _) (PC_one _) (le_len (PC_len _) (PC_len _) (by decide)) (splice_all ((PC_len _).trans (PC_len _).symm)).symm,
    ob_assign (fun _ => rfl) rfl rfl (fun _ => by kernel_rfl),
    trivial⟩ (fun L6 w7 hp7 => ?_)
  refine k10 _ _ ?_
  refine wp_seq_k (fun K11 k11 => ?_)
  refine draws (by kernel_rfl) (ks := [.det (.bool true), .det (.bool true), .det (PV r), .det (PV x), .det (.bool true), .det (.bool true), .det undef, .det undef, .det undef, .det undef, .det (.bool true), .det (.bool true), .det (.bool true), .det (PV r), .det (.bool false), .det (.bool true), .det (.bool true), .det (.bool true), .det (.bool true), .det (.bool false), .det (.bool false), .det (PV s), .det (PV s), .det (PV x), .det (PV x), .det (.bool true), .det (.bool true), .det (.bool true), .det (.bool true), .det (PV x), .det (PV 0), .det (.bool true), .det (.bool true), .det undef, .det undef, .det undef, .det undef, .det undef, .det undef, .det (.bool true), .det (.bool true), .det (.bool true)]) (T := [0, 1, 3, 3, 15, 31, 63, 63, 191, 511, 1023, 2047, 4095, 8191, 16383, 32767, 65535, 131071, 262143, 524287, 1048575, 2097151, 2097151, 8388607, 2097151, 33554431, 67108863, 134217727, 268435455, 536870911, 536870911, 2147483647, 4294967295, 8589934591, 17179869183, 8589934591, 68719476735, 137438953471, 274877906943, 549755813887, 1099511627775, 2199023255551]) (nt := 77) (nh := 3) (H := [((L0.b 0), PC x), ((L5.b 7), PC r), ((L6.b 5), PC s)]) (A := fun L => [PV x, .int .u8 k, .pointer (some ⟨(L0.b 0), 0, none⟩), undef, .bool true, .pointer (some ⟨(L5.b 7), 0, none⟩), .bool true, .pointer (some ⟨(L6.b 5), 0, none⟩), .bool true, .bool true, .bool false, PV x, .bool true, .bool false, .int .u8 k, .int .u8 m, .bool false, undef, undef, .int .u8 k, .int .u8 m, .bool false, undef, undef, .tuple #[PV r, .bool true], PV x, PV x, PV (x * x), .tuple #[PV r, .bool true], PV r, .bool true, .tuple #[PV s, .bool true], PV x, .tuple #[PV s, .bool true], PV s, .bool true, .bool true, .bool true, PV r, PV x, .bool true, .bool true, undef, undef, undef, undef, .bool true, .bool true, .bool true, PV r, .bool false, .bool true, .bool true, .bool true, .bool true, .bool false, .bool false, PV s, PV s, PV x, PV x, .bool true, .bool true, .bool true, .bool true, PV x, PV 0, .bool true, .bool true, undef, undef, undef, undef, undef, undef, .bool true, .bool true]) (H' := fun L => [((L0.b 0), PC x), ((L5.b 7), PC r), ((L6.b 5), PC s)]) (by kernel_rfl) rfl rfl rfl (fun L => by kernel_rfl) (fun L => by kernel_rfl) hp7 ⟨
    ob_move (fun _ => rfl) rfl rfl (fun _ => by kernel_rfl),
    ob_move (fun _ => rfl) rfl rfl (fun _ => by kernel_rfl),
    ob_load (b := (L5.b 7)) (off := 0) (cs := PC r) (by kernel_rfl) (fun _ => by kernel_rfl) rfl rfl (fun _ => by kernel_rfl) (fun _ _ hs => (seen_at (k := 1) hs rfl).cells) Tryd.underlying26 rfl (sizePC _),
    ob_load (b := (L0.b 0)) (off := 0) (cs := PC x) (by kernel_rfl) (fun _ => by kernel_rfl) rfl rfl (fun _ => by kernel_rfl) (fun _ _ hs => (seen_at (k := 0) hs rfl).cells) Tryd.underlying26 rfl (sizePC _),
    ob_eq (u := PV r) (v := PV x) (fun _ => by kernel_rfl) rfl rfl (fun _ => by kernel_rfl) (fun _ => by kernel_rfl) (fun w => guardP _ _ _ _ _ w) (fun w => (eqlP _ _ w).trans (by rw [decide_eq_true (hrz)]; try rfl)),
    ob_move (fun _ => by kernel_rfl) rfl rfl (fun _ => by kernel_rfl),
    ob_skip (fun _ => by kernel_rfl) rfl,
    ob_skip (fun _ => by kernel_rfl) rfl,
    ob_skip (fun _ => by kernel_rfl) rfl,
    ob_skip (fun _ => by kernel_rfl) rfl,
    ob_pickT (fun _ => by kernel_rfl) rfl rfl (fun _ => by kernel_rfl) (fun _ => by kernel_rfl),
    ob_pickT (fun _ => rfl) rfl rfl (fun _ => by kernel_rfl) (fun _ => by kernel_rfl),
    ob_move (fun _ => rfl) rfl rfl (fun _ => by kernel_rfl),
    ob_load (b := (L5.b 7)) (off := 0) (cs := PC r) (by kernel_rfl) (fun _ => by kernel_rfl) rfl rfl (fun _ => by kernel_rfl) (fun _ _ hs => (seen_at (k := 1) hs rfl).cells) Tryd.underlying26 rfl (sizePC _),
    ob_call (vs := #[PV r]) (by kernel_rfl) (by kernel_rfl) (fun _ => by kernel_rfl) rfl rfl (fun _ => by kernel_rfl) (fun w hb _ => by have e := fp2Great K r w (K.stay hg hb); rw [hgr] at e; exact e),
    ob_not (b := false) (fun _ => by kernel_rfl) rfl rfl (fun _ => by kernel_rfl),
    ob_pickT (fun _ => rfl) rfl rfl (fun _ => by kernel_rfl) (fun _ => by kernel_rfl),
    ob_move (fun _ => rfl) rfl rfl (fun _ => by kernel_rfl),
    ob_move (fun _ => by kernel_rfl) rfl rfl (fun _ => by kernel_rfl),
    ob_not (b := true) (fun _ => by kernel_rfl) rfl rfl (fun _ => by kernel_rfl),
    ob_move (fun _ => by kernel_rfl) rfl rfl (fun _ => by kernel_rfl),
    ob_load (b := (L6.b 5)) (off := 0) (cs := PC s) (by kernel_rfl) (fun _ => by kernel_rfl) rfl rfl (fun _ => by kernel_rfl) (fun _ _ hs => (seen_at (k := 2) hs rfl).cells) Tryd.underlying26 rfl (sizePC _),
    ob_load (b := (L6.b 5)) (off := 0) (cs := PC s) (by kernel_rfl) (fun _ => by kernel_rfl) rfl rfl (fun _ => by kernel_rfl) (fun _ _ hs => (seen_at (k := 2) hs rfl).cells) Tryd.underlying26 rfl (sizePC _),
    ob_call (vs := #[PV s, PV s]) (by kernel_rfl) (by kernel_rfl) (fun _ => by kernel_rfl) rfl rfl (fun _ => by kernel_rfl) (fun w hb _ => by have e := fp2Mul K s s w (K.stay hg hb); rw [hss] at e; exact e),
    ob_load (b := (L0.b 0)) (off := 0) (cs := PC x) (by kernel_rfl) (fun _ => by kernel_rfl) rfl rfl (fun _ => by kernel_rfl) (fun _ _ hs => (seen_at (k := 0) hs rfl).cells) Tryd.underlying26 rfl (sizePC _),
    ob_eq (u := PV x) (v := PV x) (fun _ => by kernel_rfl) rfl rfl (fun _ => by kernel_rfl) (fun _ => by kernel_rfl) (fun w => guardP _ _ _ _ _ w) (fun w => (eqlP _ _ w).trans (by rw [decide_eq_true (rfl)]; try rfl)),
    ob_pickF (fun _ => by kernel_rfl) rfl rfl (fun _ => by kernel_rfl) (fun _ => by kernel_rfl),
    ob_pickT (fun _ => rfl) rfl rfl (fun _ => by kernel_rfl) (fun _ => by kernel_rfl),
    ob_move (fun _ => rfl) rfl rfl (fun _ => by kernel_rfl),
    ob_load (b := (L0.b 0)) (off := 0) (cs := PC x) (by kernel_rfl) (fun _ => by kernel_rfl) rfl rfl (fun _ => by kernel_rfl) (fun _ _ hs => (seen_at (k := 0) hs rfl).cells) Tryd.underlying26 rfl (sizePC _),
    ob_build (qs := #[]) (fun _ => by kernel_rfl) rfl rfl (fun _ => by kernel_rfl) buildP0,
    ob_eq (u := PV x) (v := PV 0) (fun _ => by kernel_rfl) rfl rfl (fun _ => by kernel_rfl) (fun _ => by kernel_rfl) (fun w => guardP _ _ _ _ _ w) (fun w => (eqlP _ _ w).trans (by rw [decide_eq_true (h0)]; try rfl)),
    ob_move (fun _ => by kernel_rfl) rfl rfl (fun _ => by kernel_rfl),
    ob_skip (fun _ => by kernel_rfl) rfl,
    ob_skip (fun _ => by kernel_rfl) rfl,
    ob_skip (fun _ => by kernel_rfl) rfl,
    ob_skip (fun _ => by kernel_rfl) rfl,
    ob_skip (fun _ => by kernel_rfl) rfl,
    ob_skip (fun _ => by kernel_rfl) rfl,
    ob_pickT (fun _ => by kernel_rfl) rfl rfl (fun _ => by kernel_rfl) (fun _ => by kernel_rfl),
    ob_pickT (fun _ => rfl) rfl rfl (fun _ => by kernel_rfl) (fun _ => by kernel_rfl),
    ob_assign (fun _ => rfl) rfl rfl (fun _ => by kernel_rfl),
    trivial⟩ (fun L7 w8 hp8 => ?_)
  refine k11 _ _ ?_
  refine wp_ret ?_
  exact bodyPost_ret (v := .bool true) (res_t rfl (by kernel_rfl) _) rfl ⟨rfl, hp8.bel⟩
set_option maxHeartbeats 4000000 in
theorem sqsa1 {G : World → Prop} (K : FpK G) (R : RefK) (x y r s : F2) (k m : Int) (w : World) (hg : G w) (hH : ∀ w, G w → w.rangeAt 2 0 (FC hf)) (hB : ∀ w, G w → Calls Tryd.prog 7 #[] w (Ret (.bool true) w)) (kl : 0 ≤ k) (ku : k < 256) (hm : k % 4 = m) (m1 : m ≠ 1) (m2 : m ≠ 2) (hr : (x * x).sq2 = r) (hri : (x * x).is2 = true) (hs : x.sq2 = s) (hsi : x.is2 = true) (hss : s * s = x) (hy : -x = y) (hgr : r.great = false) (hgz : x.great = false) (hgy : y.great = true) (h0 : x ≠ 0) (hrz : r = x) : Calls Tryd.prog 6 #[PV x, .int .u8 k] w (Ret (.bool true) w) := by
  have hp0 := Heap.start w
  go_enter Tryd.func6, Tryd.ntmps6
  refine wp_seq_k (fun K1 k1 => ?_)
  refine goes (ks := [.alloc (PC x), .det (.bool false)]) (T := [0, 0]) (nt := 77) (nh := 0) (H := []) (A := fun L => [PV x, .int .u8 k, .pointer (some ⟨L.b 0, 0, none⟩), undef, .bool false, undef, undef, undef, undef, undef, undef, undef, undef, undef, undef, undef, undef, undef, undef, undef, undef, undef, undef, undef, undef, undef, undef, undef, undef, undef, undef, undef, undef, undef, undef, undef, undef, undef, undef, undef, undef, undef, undef, undef, undef, undef, undef, undef, undef, undef, undef, undef, undef, undef, undef, undef, undef, undef, undef, undef, undef, undef, undef, undef, undef, undef, undef, undef, undef, undef, undef, undef, undef, undef, undef, undef, undef]) (H' := fun L => [(L.b 0, PC x)]) (by kernel_rfl) rfl rfl rfl (fun L => by kernel_rfl) (fun L => by kernel_rfl) hp0 ⟨
    ob_box (v := PV x) (fun _ => rfl) rfl rfl (fun _ => by kernel_rfl) rfl,
    ob_assign (fun _ => rfl) rfl rfl (fun _ => by kernel_rfl),
    trivial⟩ (fun L0 w1 hp1 => ?_)
  refine k1 _ _ ?_
  refine wp_seq_k (fun K2 k2 => ?_)
  refine wp_seq_k (fun K3 k3 => ?_)
  refine goes (ks := [.det (.bool true), .det (.bool false)]) (T := [0, 1]) (nt := 77) (nh := 1) (H := [((L0.b 0), PC x)]) (A := fun L => [PV x, .int .u8 k, .pointer (some ⟨(L0.b 0), 0, none⟩), undef, .bool false, undef, undef, undef, undef, .bool true, .bool false, undef, undef, undef, undef, undef, undef, undef, undef, undef, undef, undef, undef, undef, undef, undef, undef, undef, undef, undef, undef, undef, undef, undef, undef, undef, undef, undef, undef, undef, undef, undef, undef, undef, undef, undef, undef, undef, undef, undef, undef, undef, undef, undef, undef, undef, undef, undef, undef, undef, undef, undef, undef, undef, undef, undef, undef, undef, undef, undef, undef, undef, undef, undef, undef, undef, undef]) (H' := fun L => [((L0.b 0), PC x)]) (by kernel_rfl) rfl rfl rfl (fun L => by kernel_rfl) (fun L => by kernel_rfl) hp1 ⟨
    ob_call (vs := #[]) (by kernel_rfl) (by kernel_rfl) (fun _ => rfl) rfl rfl (fun _ => by kernel_rfl) (fun w hb _ => hB w (K.stay hg hb)),
    ob_not (b := true) (fun _ => rfl) rfl rfl (fun _ => by kernel_rfl),
    trivial⟩ (fun L1 w2 hp2 => ?_)
  refine k3 _ _ ?_
  refine wp_cond_false (by kernel_rfl) ?_
  refine skips ?_
  refine k2 _ _ ?_
  refine wp_seq_k (fun K4 k4 => ?_)
  refine wp_seq_k (fun K5 k5 => ?_)
  refine goes (ks := [.det (PV x), .det (.bool true), .det (.bool false)]) (T := [0, 1, 3]) (nt := 77) (nh := 1) (H := [((L0.b 0), PC x)]) (A := fun L => [PV x, .int .u8 k, .pointer (some ⟨(L0.b 0), 0, none⟩), undef, .bool false, undef, undef, undef, undef, .bool true, .bool false, PV x, .bool true, .bool false, undef, undef, undef, undef, undef, undef, undef, undef, undef, undef, undef, undef, undef, undef, undef, undef, undef, undef, undef, undef, undef, undef, undef, undef, undef, undef, undef, undef, undef, undef, undef, undef, undef, undef, undef, undef, undef, undef, undef, undef, undef, undef, undef, undef, undef, undef, undef, undef, undef, undef, undef, undef, undef, undef, undef, undef, undef, undef, undef, undef, undef, undef, undef]) (H' := fun L => [((L0.b 0), PC x)]) (by kernel_rfl) rfl rfl rfl (fun L => by kernel_rfl) (fun L => by kernel_rfl) hp2 ⟨
    ob_load (b := (L0.b 0)) (off := 0) (cs := PC x) (by kernel_rfl) (fun _ => rfl) rfl rfl (fun _ => by kernel_rfl) (fun _ _ hs => (seen_at (k := 0) hs rfl).cells) Tryd.underlying26 rfl (sizePC _),
    ob_call (vs := #[PV x]) (by kernel_rfl) (by kernel_rfl) (fun _ => rfl) rfl rfl (fun _ => by kernel_rfl) (fun w _ _ => ref5MayP R _ w),
    ob_not (b := true) (fun _ => rfl) rfl rfl (fun _ => by kernel_rfl),
    trivial⟩ (fun L2 w3 hp3 => ?_)
  refine k5 _ _ ?_
  refine wp_cond_false (by kernel_rfl) ?_
  refine skips ?_
  refine k4 _ _ ?_
  refine wp_seq_k (fun K6 k6 => ?_)
  refine wp_seq_k (fun K7 k7 => ?_)
  refine goes (ks := [.det (.int .u8 k), .det (.int .u8 m), .det (.bool false)]) (T := [0, 1, 3]) (nt := 77) (nh := 1) (H := [((L0.b 0), PC x)]) (A := fun L => [PV x, .int .u8 k, .pointer (some ⟨(L0.b 0), 0, none⟩), undef, .bool false, undef, undef, undef, undef, .bool true, .bool false, PV x, .bool true, .bool false, .int .u8 k, .int .u8 m, .bool false, undef, undef, undef, undef, undef, undef, undef, undef, undef, undef, undef, undef, undef, undef, undef, undef, undef, undef, undef, undef, undef, undef, undef, undef, undef, undef, undef, undef, undef, undef, undef, undef, undef, undef, undef, undef, undef, undef, undef, undef, undef, undef, undef, undef, undef, undef, undef, undef, undef, undef, undef, undef, undef, undef, undef, undef, undef, undef, undef, undef]) (H' := fun L => [((L0.b 0), PC x)]) (by kernel_rfl) rfl rfl rfl (fun L => by kernel_rfl) (fun L => by kernel_rfl) hp3 ⟨
    ob_move (fun _ => rfl) rfl rfl (fun _ => by kernel_rfl),
    ob_bin (u := .int .u8 k) (v := .int .u8 4) (fun _ => rfl) rfl rfl (fun _ => by kernel_rfl) (fun _ => by kernel_rfl) (fun w => guardI _ _ _ _ _ _ _ _ w) (fun w => rem4 _ _ _ kl ku hm w),
    ob_bin (u := .int .u8 m) (v := .int .u8 1) (fun _ => rfl) rfl rfl (fun _ => by kernel_rfl) (fun _ => by kernel_rfl) (fun w => guardI _ _ _ _ _ _ _ _ w) (fun w => (eqlI _ _ _ _ w).trans (by rw [decide_eq_false m1])),
    trivial⟩ (fun L3 w4 hp4 => ?_)
  refine k7 _ _ ?_
  refine wp_cond_false (by kernel_rfl) ?_
  refine wp_seq_k (fun K8 k8 => ?_)
  refine goes (ks := [.det (.int .u8 k), .det (.int .u8 m), .det (.bool false)]) (T := [0, 1, 3]) (nt := 77) (nh := 1) (H := [((L0.b 0), PC x)]) (A := fun L => [PV x, .int .u8 k, .pointer (some ⟨(L0.b 0), 0, none⟩), undef, .bool false, undef, undef, undef, undef, .bool true, .bool false, PV x, .bool true, .bool false, .int .u8 k, .int .u8 m, .bool false, undef, undef, .int .u8 k, .int .u8 m, .bool false, undef, undef, undef, undef, undef, undef, undef, undef, undef, undef, undef, undef, undef, undef, undef, undef, undef, undef, undef, undef, undef, undef, undef, undef, undef, undef, undef, undef, undef, undef, undef, undef, undef, undef, undef, undef, undef, undef, undef, undef, undef, undef, undef, undef, undef, undef, undef, undef, undef, undef, undef, undef, undef, undef, undef]) (H' := fun L => [((L0.b 0), PC x)]) (by kernel_rfl) rfl rfl rfl (fun L => by kernel_rfl) (fun L => by kernel_rfl) hp4 ⟨
    ob_move (fun _ => rfl) rfl rfl (fun _ => by kernel_rfl),
    ob_bin (u := .int .u8 k) (v := .int .u8 4) (fun _ => rfl) rfl rfl (fun _ => by kernel_rfl) (fun _ => by kernel_rfl) (fun w => guardI _ _ _ _ _ _ _ _ w) (fun w => rem4 _ _ _ kl ku hm w),
    ob_bin (u := .int .u8 m) (v := .int .u8 2) (fun _ => rfl) rfl rfl (fun _ => by kernel_rfl) (fun _ => by kernel_rfl) (fun w => guardI _ _ _ _ _ _ _ _ w) (fun w => (eqlI _ _ _ _ w).trans (by rw [decide_eq_false m2])),
    trivial⟩ (fun L4 w5 hp5 => ?_)
  refine k8 _ _ ?_
  refine wp_cond_false (by kernel_rfl) ?_
  refine skips ?_
  refine k6 _ _ ?_
  refine wp_seq_k (fun K9 k9 => ?_)
  refine goes (ks := [.det (PV x), .det (PV x), .det (PV (x * x)), .det (.tuple #[PV r, .bool true]), .det (.tuple #[PV r, .bool true]), .det (PV r), .det (.bool true), .alloc (PC 0), .store (.new 7) 0 (PC r) (PC r), .det (.bool true)]) (T := [0, 0, 3, 7, 15, 31, 31, 0, 191, 511]) (nt := 77) (nh := 1) (H := [((L0.b 0), PC x)]) (A := fun L => [PV x, .int .u8 k, .pointer (some ⟨(L0.b 0), 0, none⟩), undef, .bool false, .pointer (some ⟨L.b 7, 0, none⟩), .bool true, undef, undef, .bool true, .bool false, PV x, .bool true, .bool false, .int .u8 k, .int .u8 m, .bool false, undef, undef, .int .u8 k, .int .u8 m, .bool false, undef, undef, .tuple #[PV r, .bool true], PV x, PV x, PV (x * x), .tuple #[PV r, .bool true], PV r, .bool true, undef, undef, undef, undef, undef, undef, undef, undef, undef, undef, undef, undef, undef, undef, undef, undef, undef, undef, undef, undef, undef, undef, undef, undef, undef, undef, undef, undef, undef, undef, undef, undef, undef, undef, undef, undef, undef, undef, undef, undef, undef, undef, undef, undef, undef, undef]) (H' := fun L => [((L0.b 0), PC x), (L.b 7, PC r)]) (by kernel_rfl) rfl rfl rfl (fun L => by kernel_rfl) (fun L => by kernel_rfl) hp5 ⟨
    ob_load (b := (L0.b 0)) (off := 0) (cs := PC x) (by kernel_rfl) (fun _ => rfl) rfl rfl (fun _ => by kernel_rfl) (fun _ _ hs => (seen_at (k := 0) hs rfl).cells) Tryd.underlying26 rfl (sizePC _),
    ob_load (b := (L0.b 0)) (off := 0) (cs := PC x) (by kernel_rfl) (fun _ => rfl) rfl rfl (fun _ => by kernel_rfl) (fun _ _ hs => (seen_at (k := 0) hs rfl).cells) Tryd.underlying26 rfl (sizePC _),
    ob_call (vs := #[PV x, PV x]) (by kernel_rfl) (by kernel_rfl) (fun _ => rfl) rfl rfl (fun _ => by kernel_rfl) (fun w hb _ => fp2Mul K _ _ w (K.stay hg hb)),
    ob_call (vs := #[PV (x * x)]) (by kernel_rfl) (by kernel_rfl) (fun _ => rfl) rfl rfl (fun _ => by kernel_rfl) (fun w hb _ => by have e := fp2Sqrt K (x * x) w (K.stay hg hb) hH; rw [hr, hri] at e; exact e),
    ob_move (fun _ => rfl) rfl rfl (fun _ => by kernel_rfl),
    ob_extract (vs := #[PV r, .bool true]) (fun _ => rfl) rfl rfl (fun _ => by kernel_rfl) rfl,
    ob_extract (vs := #[PV r, .bool true]) (fun _ => rfl) rfl rfl (fun _ => by kernel_rfl) rfl,
    ob_alloc (v := PV 0) (fun _ => rfl) rfl rfl zeroP rfl,
    ob_store (old := PC 0) (fun _ => rfl) rfl rfl (fun _ => by kernel_rfl) (fun _ => by kernel_rfl) rfl (sizePC _) (PC_one _) (le_len (PC_len _) (PC_len _) (by decide)) (splice_all ((PC_len _).trans (PC_len _).symm)).symm,
    ob_assign (fun _ => rfl) rfl rfl (fun _ => by kernel_rfl),
    trivial⟩ (fun L5 w6 hp6 => ?_)
  refine k9 _ _ ?_
  refine wp_seq_k (fun K10 k10 => ?_)
  refine goes (ks := [.det (PV x), .det (.tuple #[PV s, .bool true]), .det (.tuple #[PV s, .bool true]), .det (PV s), .det (.bool true), .alloc (PC 0), .store (.new 5) 0 (PC s) (PC s), .det (.bool true)]) (T := [0, 1, 3, 7, 7, 0, 47, 127]) (nt := 77) (nh := 2) (H := [((L0.b 0), PC x), ((L5.b 7), PC r)]) (A := fun L => [PV x, .int .u8 k, .pointer (some ⟨(L0.b 0), 0, none⟩), undef, .bool false, .pointer (some ⟨(L5.b 7), 0, none⟩), .bool true, .pointer (some ⟨L.b 5, 0, none⟩), .bool true, .bool true, .bool false, PV x, .bool true, .bool false, .int .u8 k, .int .u8 m, .bool false, undef, undef, .int .u8 k, .int .u8 m, .bool false, undef, undef, .tuple #[PV r, .bool true], PV x, PV x, PV (x * x), .tuple #[PV r, .bool true], PV r, .bool true, .tuple #[PV s, .bool true], PV x, .tuple #[PV s, .bool true], PV s, .bool true, undef, undef, undef, undef, undef, undef, undef, undef, undef, undef, undef, undef, undef, undef, undef, undef, undef, undef, undef, undef, undef, undef, undef, undef, undef, undef, undef, undef, undef, undef, undef, undef, undef, undef, undef, undef, undef, undef, undef, undef, undef]) (H' := fun L => [((L0.b 0), PC x), ((L5.b 7), PC r), (L.b 5, PC s)]) (by kernel_rfl) rfl rfl rfl (fun L => by kernel_rfl) (fun L => by kernel_rfl) hp6 ⟨
    ob_load (b := (L0.b 0)) (off := 0) (cs := PC x) (by kernel_rfl) (fun _ => rfl) rfl rfl (fun _ => by kernel_rfl) (fun _ _ hs => (seen_at (k := 0) hs rfl).cells) Tryd.underlying26 rfl (sizePC _),
    ob_call (vs := #[PV x]) (by kernel_rfl) (by kernel_rfl) (fun _ => rfl) rfl rfl (fun _ => by kernel_rfl) (fun w hb _ => by have e := fp2Sqrt K x w (K.stay hg hb) hH; rw [hs, hsi] at e; exact e),
    ob_move (fun _ => rfl) rfl rfl (fun _ => by kernel_rfl),
    ob_extract (vs := #[PV s, .bool true]) (fun _ => rfl) rfl rfl (fun _ => by kernel_rfl) rfl,
    ob_extract (vs := #[PV s, .bool true]) (fun _ => rfl) rfl rfl (fun _ => by kernel_rfl) rfl,
    ob_alloc (v := PV 0) (fun _ => rfl) rfl rfl zeroP rfl,
    ob_store (old := PC 0) (fun _ => rfl) rfl rfl (fun _ => by kernel_rfl) (fun _ => by kernel_rfl) rfl (sizePC _) (PC_one _) (le_len (PC_len _) (PC_len _) (by decide)) (splice_all ((PC_len _).trans (PC_len _).symm)).symm,
    ob_assign (fun _ => rfl) rfl rfl (fun _ => by kernel_rfl),
    trivial⟩ (fun L6 w7 hp7 => ?_)
  refine k10 _ _ ?_
  refine wp_seq_k (fun K11 k11 => ?_)
  refine draws (by kernel_rfl) (ks := [.det (.bool true), .det (.bool true), .det (PV r), .det (PV x), .det (.bool true), .det (.bool true), .det undef, .det undef, .det undef, .det undef, .det (.bool true), .det (.bool true), .det (.bool true), .det (PV r), .det (.bool false), .det (.bool true), .det (.bool true), .det (.bool true), .det (.bool true), .det (.bool false), .det (.bool false), .det (PV s), .det (PV s), .det (PV x), .det (PV x), .det (.bool true), .det (.bool true), .det (.bool true), .det (.bool true), .det (PV x), .det (PV 0), .det (.bool false), .det (.bool false), .det (PV x), .det (.bool false), .det (PV x), .det (PV y), .det (.bool true), .det (.bool true), .det (.bool true), .det (.bool true), .det (.bool true)]) (T := [0, 1, 3, 3, 15, 31, 63, 63, 191, 511, 1023, 2047, 4095, 8191, 16383, 32767, 65535, 131071, 262143, 524287, 1048575, 2097151, 2097151, 8388607, 2097151, 33554431, 67108863, 134217727, 268435455, 536870911, 536870911, 2147483647, 4294967295, 8589934591, 17179869183, 8589934591, 68719476735, 137438953471, 274877906943, 549755813887, 1099511627775, 2199023255551]) (nt := 77) (nh := 3) (H := [((L0.b 0), PC x), ((L5.b 7), PC r), ((L6.b 5), PC s)]) (A := fun L => [PV x, .int .u8 k, .pointer (some ⟨(L0.b 0), 0, none⟩), undef, .bool true, .pointer (some ⟨(L5.b 7), 0, none⟩), .bool true, .pointer (some ⟨(L6.b 5), 0, none⟩), .bool true, .bool true, .bool false, PV x, .bool true, .bool false, .int .u8 k, .int .u8 m, .bool false, undef, undef, .int .u8 k, .int .u8 m, .bool false, undef, undef, .tuple #[PV r, .bool true], PV x, PV x, PV (x * x), .tuple #[PV r, .bool true], PV r, .bool true, .tuple #[PV s, .bool true], PV x, .tuple #[PV s, .bool true], PV s, .bool true, .bool true, .bool true, PV r, PV x, .bool true, .bool true, undef, undef, undef, undef, .bool true, .bool true, .bool true, PV r, .bool false, .bool true, .bool true, .bool true, .bool true, .bool false, .bool false, PV s, PV s, PV x, PV x, .bool true, .bool true, .bool true, .bool true, PV x, PV 0, .bool false, .bool false, PV x, .bool false, PV x, PV y, .bool true, .bool true, .bool true, .bool true]) (H' := fun L => [((L0.b 0), PC x), ((L5.b 7), PC r), ((L6.b 5), PC s)]) (by kernel_rfl) rfl rfl rfl (fun L => by kernel_rfl) (fun L => by kernel_rfl) hp7 ⟨
    ob_move (fun _ => rfl) rfl rfl (fun _ => by kernel_rfl),
    ob_move (fun _ => rfl) rfl rfl (fun _ => by kernel_rfl),
    ob_load (b := (L5.b 7)) (off := 0) (cs := PC r) (by kernel_rfl) (fun _ => by kernel_rfl) rfl rfl (fun _ => by kernel_rfl) (fun _ _ hs => (seen_at (k := 1) hs rfl).cells) Tryd.underlying26 rfl (sizePC _),
    ob_load (b := (L0.b 0)) (off := 0) (cs := PC x) (by kernel_rfl) (fun _ => by kernel_rfl) rfl rfl (fun _ => by kernel_rfl) (fun _ _ hs => (seen_at (k := 0) hs rfl).cells) Tryd.underlying26 rfl (sizePC _),
    ob_eq (u := PV r) (v := PV x) (fun _ => by kernel_rfl) rfl rfl (fun _ => by kernel_rfl) (fun _ => by kernel_rfl) (fun w => guardP _ _ _ _ _ w) (fun w => (eqlP _ _ w).trans (by rw [decide_eq_true (hrz)]; try rfl)),
    ob_move (fun _ => by kernel_rfl) rfl rfl (fun _ => by kernel_rfl),
    ob_skip (fun _ => by kernel_rfl) rfl,
    ob_skip (fun _ => by kernel_rfl) rfl,
    ob_skip (fun _ => by kernel_rfl) rfl,
    ob_skip (fun _ => by kernel_rfl) rfl,
    ob_pickT (fun _ => by kernel_rfl) rfl rfl (fun _ => by kernel_rfl) (fun _ => by kernel_rfl),
    ob_pickT (fun _ => rfl) rfl rfl (fun _ => by kernel_rfl) (fun _ => by kernel_rfl),
    ob_move (fun _ => rfl) rfl rfl (fun _ => by kernel_rfl),
    ob_load (b := (L5.b 7)) (off := 0) (cs := PC r) (by kernel_rfl) (fun _ => by kernel_rfl) rfl rfl (fun _ => by kernel_rfl) (fun _ _ hs => (seen_at (k := 1) hs rfl).cells) Tryd.underlying26 rfl (sizePC _),
    ob_call (vs := #[PV r]) (by kernel_rfl) (by kernel_rfl) (fun _ => by kernel_rfl) rfl rfl (fun _ => by kernel_rfl) (fun w hb _ => by have e := fp2Great K r w (K.stay hg hb); rw [hgr] at e; exact e),
    ob_not (b := false) (fun _ => by kernel_rfl) rfl rfl (fun _ => by kernel_rfl),
    ob_pickT (fun _ => rfl) rfl rfl (fun _ => by kernel_rfl) (fun _ => by kernel_rfl),
    ob_move (fun _ => rfl) rfl rfl (fun _ => by kernel_rfl),
    ob_move (fun _ => by kernel_rfl) rfl rfl (fun _ => by kernel_rfl),
    ob_not (b := true) (fun _ => by kernel_rfl) rfl rfl (fun _ => by kernel_rfl),
    ob_move (fun _ => by kernel_rfl) rfl rfl (fun _ => by kernel_rfl),
    ob_load (b := (L6.b 5)) (off := 0) (cs := PC s) (by kernel_rfl) (fun _ => by kernel_rfl) rfl rfl (fun _ => by kernel_rfl) (fun _ _ hs => (seen_at (k := 2) hs rfl).cells) Tryd.underlying26 rfl (sizePC _),
    ob_load (b := (L6.b 5)) (off := 0) (cs := PC s) (by kernel_rfl) (fun _ => by kernel_rfl) rfl rfl (fun _ => by kernel_rfl) (fun _ _ hs => (seen_at (k := 2) hs rfl).cells) Tryd.underlying26 rfl (sizePC _),
    ob_call (vs := #[PV s, PV s]) (by kernel_rfl) (by kernel_rfl) (fun _ => by kernel_rfl) rfl rfl (fun _ => by kernel_rfl) (fun w hb _ => by have e := fp2Mul K s s w (K.stay hg hb); rw [hss] at e; exact e),
    ob_load (b := (L0.b 0)) (off := 0) (cs := PC x) (by kernel_rfl) (fun _ => by kernel_rfl) rfl rfl (fun _ => by kernel_rfl) (fun _ _ hs => (seen_at (k := 0) hs rfl).cells) Tryd.underlying26 rfl (sizePC _),
    ob_eq (u := PV x) (v := PV x) (fun _ => by kernel_rfl) rfl rfl (fun _ => by kernel_rfl) (fun _ => by kernel_rfl) (fun w => guardP _ _ _ _ _ w) (fun w => (eqlP _ _ w).trans (by rw [decide_eq_true (rfl)]; try rfl)),
    ob_pickF (fun _ => by kernel_rfl) rfl rfl (fun _ => by kernel_rfl) (fun _ => by kernel_rfl),
    ob_pickT (fun _ => rfl) rfl rfl (fun _ => by kernel_rfl) (fun _ => by kernel_rfl),
    ob_move (fun _ => rfl) rfl rfl (fun _ => by kernel_rfl),
    ob_load (b := (L0.b 0)) (off := 0) (cs := PC x) (by kernel_rfl) (fun _ => by kernel_rfl) rfl rfl (fun _ => by kernel_rfl) (fun _ _ hs => (seen_at (k := 0) hs rfl).cells) Tryd.underlying26 rfl (sizePC _),
    ob_build (qs := #[]) (fun _ => by kernel_rfl) rfl rfl (fun _ => by kernel_rfl) buildP0,
    ob_eq (u := PV x) (v := PV 0) (fun _ => by kernel_rfl) rfl rfl (fun _ => by kernel_rfl) (fun _ => by kernel_rfl) (fun w => guardP _ _ _ _ _ w) (fun w => (eqlP _ _ w).trans (by rw [decide_eq_false (h0)]; try rfl)),
    ob_move (fun _ => by kernel_rfl) rfl rfl (fun _ => by kernel_rfl),
    ob_load (b := (L0.b 0)) (off := 0) (cs := PC x) (by kernel_rfl) (fun _ => by kernel_rfl) rfl rfl (fun _ => by kernel_rfl) (fun _ _ hs => (seen_at (k := 0) hs rfl).cells) Tryd.underlying26 rfl (sizePC _),
    ob_call (vs := #[PV x]) (by kernel_rfl) (by kernel_rfl) (fun _ => by kernel_rfl) rfl rfl (fun _ => by kernel_rfl) (fun w hb _ => by have e := fp2Great K x w (K.stay hg hb); rw [hgz] at e; exact e),
    ob_load (b := (L0.b 0)) (off := 0) (cs := PC x) (by kernel_rfl) (fun _ => by kernel_rfl) rfl rfl (fun _ => by kernel_rfl) (fun _ _ hs => (seen_at (k := 0) hs rfl).cells) Tryd.underlying26 rfl (sizePC _),
    ob_call (vs := #[PV x]) (by kernel_rfl) (by kernel_rfl) (fun _ => by kernel_rfl) rfl rfl (fun _ => by kernel_rfl) (fun w hb _ => by have e := fp2Neg K x w (K.stay hg hb); rw [hy] at e; exact e),
    ob_call (vs := #[PV y]) (by kernel_rfl) (by kernel_rfl) (fun _ => by kernel_rfl) rfl rfl (fun _ => by kernel_rfl) (fun w hb _ => by have e := fp2Great K y w (K.stay hg hb); rw [hgy] at e; exact e),
    ob_ne (u := .bool false) (v := .bool true) (fun _ => by kernel_rfl) rfl rfl (fun _ => by kernel_rfl) (fun _ => by kernel_rfl) (fun w => guardB _ _ _ _ _ _ w) (fun w => (neqB _ _ w).trans rfl),
    ob_pickF (fun _ => by kernel_rfl) rfl rfl (fun _ => by kernel_rfl) (fun _ => by kernel_rfl),
    ob_pickT (fun _ => rfl) rfl rfl (fun _ => by kernel_rfl) (fun _ => by kernel_rfl),
    ob_assign (fun _ => rfl) rfl rfl (fun _ => by kernel_rfl),
    trivial⟩ (fun L7 w8 hp8 => ?_)
  refine k11 _ _ ?_
  refine wp_ret ?_
  exact bodyPost_ret (v := .bool true) (res_t rfl (by kernel_rfl) _) rfl ⟨rfl, hp8.bel⟩
set_option maxHeartbeats 4000000 in
theorem sqsa2 {G : World → Prop} (K : FpK G) (R : RefK) (x y r s : F2) (k m : Int) (w : World) (hg : G w) (hH : ∀ w, G w → w.rangeAt 2 0 (FC hf)) (hB : ∀ w, G w → Calls Tryd.prog 7 #[] w (Ret (.bool true) w)) (kl : 0 ≤ k) (ku : k < 256) (hm : k % 4 = m) (m1 : m ≠ 1) (m2 : m ≠ 2) (hr : (x * x).sq2 = r) (hri : (x * x).is2 = true) (hs : x.sq2 = s) (hsi : x.is2 = false) (hy : -x = y) (hgr : r.great = false) (hgz : x.great = false) (hgy : y.great = true) (h0 : x ≠ 0) (hrz : r = x) : Calls Tryd.prog 6 #[PV x, .int .u8 k] w (Ret (.bool true) w) := by
  have hp0 := Heap.start w
  go_enter Tryd.func6, Tryd.ntmps6
  refine wp_seq_k (fun K1 k1 => ?_)
  refine goes (ks := [.alloc (PC x), .det (.bool false)]) (T := [0, 0]) (nt := 77) (nh := 0) (H := []) (A := fun L => [PV x, .int .u8 k, .pointer (some ⟨L.b 0, 0, none⟩), undef, .bool false, undef, undef, undef, undef, undef, undef, undef, undef, undef, undef, undef, undef, undef, undef, undef, undef, undef, undef, undef, undef, undef, undef, undef, undef, undef, undef, undef, undef, undef, undef, undef, undef, undef, undef, undef, undef, undef, undef, undef, undef, undef, undef, undef, undef, undef, undef, undef, undef, undef, undef, undef, undef, undef, undef, undef, undef, undef, undef, undef, undef, undef, undef, undef, undef, undef, undef, undef, undef, undef, undef, undef, undef]) (H' := fun L => [(L.b 0, PC x)]) (by kernel_rfl) rfl rfl rfl (fun L => by kernel_rfl) (fun L => by kernel_rfl) hp0 ⟨
    ob_box (v := PV x) (fun _ => rfl) rfl rfl (fun _ => by kernel_rfl) rfl,
    ob_assign (fun _ => rfl) rfl rfl (fun _ => by kernel_rfl),
    trivial⟩ (fun L0 w1 hp1 => ?_)
  refine k1 _ _ ?_
  refine wp_seq_k (fun K2 k2 => ?_)
  refine wp_seq_k (fun K3 k3 => ?_)
  refine goes (ks := [.det (.bool true), .det (.bool false)]) (T := [0, 1]) (nt := 77) (nh := 1) (H := [((L0.b 0), PC x)]) (A := fun L => [PV x, .int .u8 k, .pointer (some ⟨(L0.b 0), 0, none⟩), undef, .bool false, undef, undef, undef, undef, .bool true, .bool false, undef, undef, undef, undef, undef, undef, undef, undef, undef, undef, undef, undef, undef, undef, undef, undef, undef, undef, undef, undef, undef, undef, undef, undef, undef, undef, undef, undef, undef, undef, undef, undef, undef, undef, undef, undef, undef, undef, undef, undef, undef, undef, undef, undef, undef, undef, undef, undef, undef, undef, undef, undef, undef, undef, undef, undef, undef, undef, undef, undef, undef, undef, undef, undef, undef, undef]) (H' := fun L => [((L0.b 0), PC x)]) (by kernel_rfl) rfl rfl rfl (fun L => by kernel_rfl) (fun L => by kernel_rfl) hp1 ⟨
    ob_call (vs := #[]) (by kernel_rfl) (by kernel_rfl) (fun _ => rfl) rfl rfl (fun _ => by kernel_rfl) (fun w hb _ => hB w (K.stay hg hb)),
    ob_not (b := true) (fun _ => rfl) rfl rfl (fun _ => by kernel_rfl),
    trivial⟩ (fun L1 w2 hp2 => ?_)
  refine k3 _ _ ?_
  refine wp_cond_false (by kernel_rfl) ?_
  refine skips ?_
  refine k2 _ _ ?_
  refine wp_seq_k (fun K4 k4 => ?_)
  refine wp_seq_k (fun K5 k5 => ?_)
  refine goes (ks := [.det (PV x), .det (.bool true), .det (.bool false)]) (T := [0, 1, 3]) (nt := 77) (nh := 1) (H := [((L0.b 0), PC x)]) (A := fun L => [PV x, .int .u8 k, .pointer (some ⟨(L0.b 0), 0, none⟩), undef, .bool false, undef, undef, undef, undef, .bool true, .bool false, PV x, .bool true, .bool false, undef, undef, undef, undef, undef, undef, undef, undef, undef, undef, undef, undef, undef, undef, undef, undef, undef, undef, undef, undef, undef, undef, undef, undef, undef, undef, undef, undef, undef, undef, undef, undef, undef, undef, undef, undef, undef, undef, undef, undef, undef, undef, undef, undef, undef, undef, undef, undef, undef, undef, undef, undef, undef, undef, undef, undef, undef, undef, undef, undef, undef, undef, undef]) (H' := fun L => [((L0.b 0), PC x)]) (by kernel_rfl) rfl rfl rfl (fun L => by kernel_rfl) (fun L => by kernel_rfl) hp2 ⟨
    ob_load (b := (L0.b 0)) (off := 0) (cs := PC x) (by kernel_rfl) (fun _ => rfl) rfl rfl (fun _ => by kernel_rfl) (fun _ _ hs => (seen_at (k := 0) hs rfl).cells) Tryd.underlying26 rfl (sizePC _),
    ob_call (vs := #[PV x]) (by kernel_rfl) (by kernel_rfl) (fun _ => rfl) rfl rfl (fun _ => by kernel_rfl) (fun w _ _ => ref5MayP R _ w),
    ob_not (b := true) (fun _ => rfl) rfl rfl (fun _ => by kernel_rfl),
    trivial⟩ (fun L2 w3 hp3 => ?_)
  refine k5 _ _ ?_
  refine wp_cond_false (by kernel_rfl) ?_
  refine skips ?_
  refine k4 _ _ ?_
  refine wp_seq_k (fun K6 k6 => ?_)
  refine wp_seq_k (fun K7 k7 => ?_)
  refine goes (ks := [.det (.int .u8 k), .det (.int .u8 m), .det (.bool false)]) (T := [0, 1, 3]) (nt := 77) (nh := 1) (H := [((L0.b 0), PC x)]) (A := fun L => [PV x, .int .u8 k, .pointer (some ⟨(L0.b 0), 0, none⟩), undef, .bool false, undef, undef, undef, undef, .bool true, .bool false, PV x, .bool true, .bool false, .int .u8 k, .int .u8 m, .bool false, undef, undef, undef, undef, undef, undef, undef, undef, undef, undef, undef, undef, undef, undef, undef, undef, undef, undef, undef, undef, undef, undef, undef, undef, undef, undef, undef, undef, undef, undef, undef, undef, undef, undef, undef, undef, undef, undef, undef, undef, undef, undef, undef, undef, undef, undef, undef, undef, undef, undef, undef, undef, undef, undef, undef, undef, undef, undef, undef, undef]) (H' := fun L => [((L0.b 0), PC x)]) (by kernel_rfl) rfl rfl rfl (fun L => by kernel_rfl) (fun L => by kernel_rfl) hp3 ⟨
    ob_move (fun _ => rfl) rfl rfl (fun _ => by kernel_rfl),
    ob_bin (u := .int .u8 k) (v := .int .u8 4) (fun _ => rfl) rfl rfl (fun _ => by kernel_rfl) (fun _ => by kernel_rfl) (fun w => guardI _ _ _ _ _ _ _ _ w) (fun w => rem4 _ _ _ kl ku hm w),
    ob_bin (u := .int .u8 m) (v := .int .u8 1) (fun _ => rfl) rfl rfl (fun _ => by kernel_rfl) (fun _ => by kernel_rfl) (fun w => guardI _ _ _ _ _ _ _ _ w) (fun w => (eqlI _ _ _ _ w).trans (by rw [decide_eq_false m1])),
    trivial⟩ (fun L3 w4 hp4 => ?_)
  refine k7 _ _ ?_
  refine wp_cond_false (by kernel_rfl) ?_
  refine wp_seq_k (fun K8 k8 => ?_)
  refine goes (ks := [.det (.int .u8 k), .det (.int .u8 m), .det (.bool false)]) (T := [0, 1, 3]) (nt := 77) (nh := 1) (H := [((L0.b 0), PC x)]) (A := fun L => [PV x, .int .u8 k, .pointer (some ⟨(L0.b 0), 0, none⟩), undef, .bool false, undef, undef, undef, undef, .bool true, .bool false, PV x, .bool true, .bool false, .int .u8 k, .int .u8 m, .bool false, undef, undef, .int .u8 k, .int .u8 m, .bool false, undef, undef, undef, undef, undef, undef, undef, undef, undef, undef, undef, undef, undef, undef, undef, undef, undef, undef, undef, undef, undef, undef, undef, undef, undef, undef, undef, undef, undef, undef, undef, undef, undef, undef, undef, undef, undef, undef, undef, undef, undef, undef, undef, undef, undef, undef, undef, undef, undef, undef, undef, undef, undef, undef, undef]) (H' := fun L => [((L0.b 0), PC x)]) (by kernel_rfl) rfl rfl rfl (fun L => by kernel_rfl) (fun L => by kernel_rfl) hp4 ⟨
    ob_move (fun _ => rfl) rfl rfl (fun _ => by kernel_rfl),
    ob_bin (u := .int .u8 k) (v := .int .u8 4) (fun _ => rfl) rfl rfl (fun _ => by kernel_rfl) (fun _ => by kernel_rfl) (fun w => guardI _ _ _ _ _ _ _ _ w) (fun w => rem4 _ _ _ kl ku hm w),
    ob_bin (u := .int .u8 m) (v := .int .u8 2) (fun _ => rfl) rfl rfl (fun _ => by kernel_rfl) (fun _ => by kernel_rfl) (fun w => guardI _ _ _ _ _ _ _ _ w) (fun w => (eqlI _ _ _ _ w).trans (by rw [decide_eq_false m2])),
    trivial⟩ (fun L4 w5 hp5 => ?_)
  refine k8 _ _ ?_
  refine wp_cond_false (by kernel_rfl) ?_
  refine skips ?_
  refine k6 _ _ ?_
  refine wp_seq_k (fun K9 k9 => ?_)
  refine goes (ks := [.det (PV x), .det (PV x), .det (PV (x * x)), .det (.tuple #[PV r, .bool true]), .det (.tuple #[PV r, .bool true]), .det (PV r), .det (.bool true), .alloc (PC 0), .store (.new 7) 0 (PC r) (PC r), .det (.bool true)]) (T := [0, 0, 3, 7, 15, 31, 31, 0, 191, 511]) (nt := 77) (nh := 1) (H := [((L0.b 0), PC x)]) (A := fun L => [PV x, .int .u8 k, .pointer (some ⟨(L0.b 0), 0, none⟩), undef, .bool false, .pointer (some ⟨L.b 7, 0, none⟩), .bool true, undef, undef, .bool true, .bool false, PV x, .bool true, .bool false, .int .u8 k, .int .u8 m, .bool false, undef, undef, .int .u8 k, .int .u8 m, .bool false, undef, undef, .tuple #[PV r, .bool true], PV x, PV x, PV (x * x), .tuple #[PV r, .bool true], PV r, .bool true, undef, undef, undef, undef, undef, undef, undef, undef, undef, undef, undef, undef, undef, undef, undef, undef, undef, undef, undef, undef, undef, undef, undef, undef, undef, undef, undef, undef, undef, undef, undef, undef, undef, undef, undef, undef, undef, undef, undef, undef, undef, undef, undef, undef, undef, undef]) (H' := fun L => [((L0.b 0), PC x), (L.b 7, PC r)]) (by kernel_rfl) rfl rfl rfl (fun L => by kernel_rfl) (fun L => by kernel_rfl) hp5 ⟨
    ob_load (b := (L0.b 0)) (off := 0) (cs := PC x) (by kernel_rfl) (fun _ => rfl) rfl rfl (fun _ => by kernel_rfl) (fun _ _ hs => (seen_at (k := 0) hs rfl).cells) Tryd.underlying26 rfl (sizePC _),
    ob_load (b := (L0.b 0)) (off := 0) (cs := PC x) (by kernel_rfl) (fun _ => rfl) rfl rfl (fun _ => by kernel_rfl) (fun _ _ hs => (seen_at (k := 0) hs rfl).cells) Tryd.underlying26 rfl (sizePC _),
    ob_call (vs := #[PV x, PV x]) (by kernel_rfl) (by kernel_rfl) (fun _ => rfl) rfl rfl (fun _ => by kernel_rfl) (fun w hb _ => fp2Mul K _ _ w (K.stay hg hb)),
    ob_call (vs := #[PV (x * x)]) (by kernel_rfl) (by kernel_rfl) (fun _ => rfl) rfl rfl (fun _ => by kernel_rfl) (fun w hb _ => by have e := fp2Sqrt K (x * x) w (K.stay hg hb) hH; rw [hr, hri] at e; exact e),
    ob_move (fun _ => rfl) rfl rfl (fun _ => by kernel_rfl),
    ob_extract (vs := #[PV r, .bool true]) (fun _ => rfl) rfl rfl (fun _ => by kernel_rfl) rfl,
    ob_extract (vs := #[PV r, .bool true]) (fun _ => rfl) rfl rfl (fun _ => by kernel_rfl) rfl,
    ob_alloc (v := PV 0) (fun _ => rfl) rfl rfl zeroP rfl,
    ob_store (old := PC 0) (fun _ => rfl) rfl rfl (fun _ => by kernel_rfl) (fun _ => by kernel_rfl) rfl (sizePC _) (PC_one _) (le_len (PC_len _) (PC_len _) (by decide)) (splice_all ((PC_len _).trans (PC_len _).symm)).symm,
    ob_assign (fun _ => rfl) rfl rfl (fun _ => by kernel_rfl),
    trivial⟩ (fun L5 w6 hp6 => ?_)
  refine k9 _ _ ?_
  refine wp_seq_k (fun K10 k10 => ?_)
  refine goes (ks := [.det (PV x), .det (.tuple #[PV s, .bool false]), .det (.tuple #[PV s, .bool false]), .det (PV s), .det (.bool false), .alloc (PC 0), .store (.new 5) 0 (PC s) (PC s), .det (.bool false)]) (T := [0, 1, 3, 7, 7, 0, 47, 127]) (nt := 77) (nh := 2) (H := [((L0.b 0), PC x), ((L5.b 7), PC r)]) (A := fun L => [PV x, .int .u8 k, .pointer (some ⟨(L0.b 0), 0, none⟩), undef, .bool false, .pointer (some ⟨(L5.b 7), 0, none⟩), .bool true, .pointer (some ⟨L.b 5, 0, none⟩), .bool false, .bool true, .bool false, PV x, .bool true, .bool false, .int .u8 k, .int .u8 m, .bool false, undef, undef, .int .u8 k, .int .u8 m, .bool false, undef, undef, .tuple #[PV r, .bool true], PV x, PV x, PV (x * x), .tuple #[PV r, .bool true], PV r, .bool true, .tuple #[PV s, .bool false], PV x, .tuple #[PV s, .bool false], PV s, .bool false, undef, undef, undef, undef, undef, undef, undef, undef, undef, undef, undef, undef, undef, undef, undef, undef, undef, undef, undef, undef, undef, undef, undef, undef, undef, undef, undef, undef, undef, undef, undef, undef, undef, undef, undef, undef, undef, undef, undef, undef, undef]) (H' := fun L => [((L0.b 0), PC x), ((L5.b 7), PC r), (L.b 5, PC s)]) (by kernel_rfl) rfl rfl rfl (fun L => by kernel_rfl) (fun L => by kernel_rfl) hp6 ⟨
    ob_load (b := (L0.b 0)) (off := 0) (cs := PC x) (by kernel_rfl) (fun _ => rfl) rfl rfl (fun _ => by kernel_rfl) (fun _ _ hs => (seen_at (k := 0) hs rfl).cells) Tryd.underlying26 rfl (sizePC _),
    ob_call (vs := #[PV x]) (by kernel_rfl) (by kernel_rfl) (fun _ => rfl) rfl rfl (fun _ => by kernel_rfl) (fun w hb _ => by have e := fp2Sqrt K x w (K.stay hg hb) hH; rw [hs, hsi] at e; exact e),
    ob_move (fun _ => rfl) rfl rfl (fun _ => by kernel_rfl),
    ob_extract (vs := #[PV s, .bool false]) (fun _ => rfl) rfl rfl (fun _ => by kernel_rfl) rfl,
    ob_extract (vs := #[PV s, .bool false]) (fun _ => rfl) rfl rfl (fun _ => by kernel_rfl) rfl,
    ob_alloc (v := PV 0) (fun _ => rfl) rfl rfl zeroP rfl,
    ob_store (old := PC 0) (fun _ => rfl) rfl rfl (fun _ => by kernel_rfl) (fun _ => by kernel_rfl) rfl (sizePC _) (PC_one _) (le_len (PC_len _) (PC_len _) (by decide)) (splice_all ((PC_len _).trans (PC_len _).symm)).symm,
    ob_assign (fun _ => rfl) rfl rfl (fun _ => by kernel_rfl),
    trivial⟩ (fun L6 w7 hp7 => ?_)
  refine k10 _ _ ?_
  refine wp_seq_k (fun K11 k11 => ?_)
  refine draws (by kernel_rfl) (ks := [.det (.bool true), .det (.bool true), .det (PV r), .det (PV x), .det (.bool true), .det (.bool true), .det undef, .det undef, .det undef, .det undef, .det (.bool true), .det (.bool true), .det (.bool true), .det (PV r), .det (.bool false), .det (.bool true), .det (.bool true), .det (.bool true), .det (.bool false), .det (.bool true), .det (.bool true), .det undef, .det undef, .det undef, .det undef, .det undef, .det (.bool true), .det (.bool true), .det (.bool true), .det (PV x), .det (PV 0), .det (.bool false), .det (.bool false), .det (PV x), .det (.bool false), .det (PV x), .det (PV y), .det (.bool true), .det (.bool true), .det (.bool true), .det (.bool true), .det (.bool true)]) (T := [0, 1, 3, 3, 15, 31, 63, 63, 191, 511, 1023, 2047, 4095, 8191, 16383, 32767, 65535, 131071, 262143, 524287, 1048575, 2097151, 2097151, 8388607, 2097151, 33554431, 67108863, 134217727, 268435455, 536870911, 536870911, 2147483647, 4294967295, 8589934591, 17179869183, 8589934591, 68719476735, 137438953471, 274877906943, 549755813887, 1099511627775, 2199023255551]) (nt := 77) (nh := 3) (H := [((L0.b 0), PC x), ((L5.b 7), PC r), ((L6.b 5), PC s)]) (A := fun L => [PV x, .int .u8 k, .pointer (some ⟨(L0.b 0), 0, none⟩), undef, .bool true, .pointer (some ⟨(L5.b 7), 0, none⟩), .bool true, .pointer (some ⟨(L6.b 5), 0, none⟩), .bool false, .bool true, .bool false, PV x, .bool true, .bool false, .int .u8 k, .int .u8 m, .bool false, undef, undef, .int .u8 k, .int .u8 m, .bool false, undef, undef, .tuple #[PV r, .bool true], PV x, PV x, PV (x * x), .tuple #[PV r, .bool true], PV r, .bool true, .tuple #[PV s, .bool false], PV x, .tuple #[PV s, .bool false], PV s, .bool false, .bool true, .bool true, PV r, PV x, .bool true, .bool true, undef, undef, undef, undef, .bool true, .bool true, .bool true, PV r, .bool false, .bool true, .bool true, .bool true, .bool false, .bool true, .bool true, undef, undef, undef, undef, undef, .bool true, .bool true, .bool true, PV x, PV 0, .bool false, .bool false, PV x, .bool false, PV x, PV y, .bool true, .bool true, .bool true, .bool true]) (H' := fun L => [((L0.b 0), PC x), ((L5.b 7), PC r), ((L6.b 5), PC s)]) (by kernel_rfl) rfl rfl rfl (fun L => by kernel_rfl) (fun L => by kernel_rfl) hp7 ⟨
    ob_move (fun _ => rfl) rfl rfl (fun _ => by kernel_rfl),
    ob_move (fun _ => rfl) rfl rfl (fun _ => by kernel_rfl),
    ob_load (b := (L5.b 7)) (off := 0) (cs := PC r) (by kernel_rfl) (fun _ => by kernel_rfl) rfl rfl (fun _ => by kernel_rfl) (fun _ _ hs => (seen_at (k := 1) hs rfl).cells) Tryd.underlying26 rfl (sizePC _),
    ob_load (b := (L0.b 0)) (off := 0) (cs := PC x) (by kernel_rfl) (fun _ => by kernel_rfl) rfl rfl (fun _ => by kernel_rfl) (fun _ _ hs => (seen_at (k := 0) hs rfl).cells) Tryd.underlying26 rfl (sizePC _),
    ob_eq (u := PV r) (v := PV x) (fun _ => by kernel_rfl) rfl rfl (fun _ => by kernel_rfl) (fun _ => by kernel_rfl) (fun w => guardP _ _ _ _ _ w) (fun w => (eqlP _ _ w).trans (by rw [decide_eq_true (hrz)]; try rfl)),
    ob_move (fun _ => by kernel_rfl) rfl rfl (fun _ => by kernel_rfl),
    ob_skip (fun _ => by kernel_rfl) rfl,
    ob_skip (fun _ => by kernel_rfl) rfl,
    ob_skip (fun _ => by kernel_rfl) rfl,
    ob_skip (fun _ => by kernel_rfl) rfl,
    ob_pickT (fun _ => by kernel_rfl) rfl rfl (fun _ => by kernel_rfl) (fun _ => by kernel_rfl),
    ob_pickT (fun _ => rfl) rfl rfl (fun _ => by kernel_rfl) (fun _ => by kernel_rfl),
    ob_move (fun _ => rfl) rfl rfl (fun _ => by kernel_rfl),
    ob_load (b := (L5.b 7)) (off := 0) (cs := PC r) (by kernel_rfl) (fun _ => by kernel_rfl) rfl rfl (fun _ => by kernel_rfl) (fun _ _ hs => (seen_at (k := 1) hs rfl).cells) Tryd.underlying26 rfl (sizePC _),
    ob_call (vs := #[PV r]) (by kernel_rfl) (by kernel_rfl) (fun _ => by kernel_rfl) rfl rfl (fun _ => by kernel_rfl) (fun w hb _ => by have e := fp2Great K r w (K.stay hg hb); rw [hgr] at e; exact e),
    ob_not (b := false) (fun _ => by kernel_rfl) rfl rfl (fun _ => by kernel_rfl),
    ob_pickT (fun _ => rfl) rfl rfl (fun _ => by kernel_rfl) (fun _ => by kernel_rfl),
    ob_move (fun _ => rfl) rfl rfl (fun _ => by kernel_rfl),
    ob_move (fun _ => by kernel_rfl) rfl rfl (fun _ => by kernel_rfl),
    ob_not (b := false) (fun _ => by kernel_rfl) rfl rfl (fun _ => by kernel_rfl),
    ob_move (fun _ => by kernel_rfl) rfl rfl (fun _ => by kernel_rfl),
    ob_skip (fun _ => by kernel_rfl) rfl,
    ob_skip (fun _ => by kernel_rfl) rfl,
    ob_skip (fun _ => by kernel_rfl) rfl,
    ob_skip (fun _ => by kernel_rfl) rfl,
    ob_skip (fun _ => by kernel_rfl) rfl,
    ob_pickT (fun _ => by kernel_rfl) rfl rfl (fun _ => by kernel_rfl) (fun _ => by kernel_rfl),
    ob_pickT (fun _ => rfl) rfl rfl (fun _ => by kernel_rfl) (fun _ => by kernel_rfl),
    ob_move (fun _ => rfl) rfl rfl (fun _ => by kernel_rfl),
    ob_load (b := (L0.b 0)) (off := 0) (cs := PC x) (by kernel_rfl) (fun _ => by kernel_rfl) rfl rfl (fun _ => by kernel_rfl) (fun _ _ hs => (seen_at (k := 0) hs rfl).cells) Tryd.underlying26 rfl (sizePC _),
    ob_build (qs := #[]) (fun _ => by kernel_rfl) rfl rfl (fun _ => by kernel_rfl) buildP0,
    ob_eq (u := PV x) (v := PV 0) (fun _ => by kernel_rfl) rfl rfl (fun _ => by kernel_rfl) (fun _ => by kernel_rfl) (fun w => guardP _ _ _ _ _ w) (fun w => (eqlP _ _ w).trans (by rw [decide_eq_false (h0)]; try rfl)),
    ob_move (fun _ => by kernel_rfl) rfl rfl (fun _ => by kernel_rfl),
    ob_load (b := (L0.b 0)) (off := 0) (cs := PC x) (by kernel_rfl) (fun _ => by kernel_rfl) rfl rfl (fun _ => by kernel_rfl) (fun _ _ hs => (seen_at (k := 0) hs rfl).cells) Tryd.underlying26 rfl (sizePC _),
    ob_call (vs := #[PV x]) (by kernel_rfl) (by kernel_rfl) (fun _ => by kernel_rfl) rfl rfl (fun _ => by kernel_rfl) (fun w hb _ => by have e := fp2Great K x w (K.stay hg hb); rw [hgz] at e; exact e),
    ob_load (b := (L0.b 0)) (off := 0) (cs := PC x) (by kernel_rfl) (fun _ => by kernel_rfl) rfl rfl (fun _ => by kernel_rfl) (fun _ _ hs => (seen_at (k := 0) hs rfl).cells) Tryd.underlying26 rfl (sizePC _),
    ob_call (vs := #[PV x]) (by kernel_rfl) (by kernel_rfl) (fun _ => by kernel_rfl) rfl rfl (fun _ => by kernel_rfl) (fun w hb _ => by have e := fp2Neg K x w (K.stay hg hb); rw [hy] at e; exact e),
    ob_call (vs := #[PV y]) (by kernel_rfl) (by kernel_rfl) (fun _ => by kernel_rfl) rfl rfl (fun _ => by kernel_rfl) (fun w hb _ => by have e := fp2Great K y w (K.stay hg hb); rw [hgy] at e; exact e),
    ob_ne (u := .bool false) (v := .bool true) (fun _ => by kernel_rfl) rfl rfl (fun _ => by kernel_rfl) (fun _ => by kernel_rfl) (fun w => guardB _ _ _ _ _ _ w) (fun w => (neqB _ _ w).trans rfl),
    ob_pickF (fun _ => by kernel_rfl) rfl rfl (fun _ => by kernel_rfl) (fun _ => by kernel_rfl),
    ob_pickT (fun _ => rfl) rfl rfl (fun _ => by kernel_rfl) (fun _ => by kernel_rfl),
    ob_assign (fun _ => rfl) rfl rfl (fun _ => by kernel_rfl),
    trivial⟩ (fun L7 w8 hp8 => ?_)
  refine k11 _ _ ?_
  refine wp_ret ?_
  exact bodyPost_ret (v := .bool true) (res_t rfl (by kernel_rfl) _) rfl ⟨rfl, hp8.bel⟩
set_option maxHeartbeats 4000000 in
theorem sqsa3 {G : World → Prop} (K : FpK G) (R : RefK) (x y r s : F2) (k m : Int) (w : World) (hg : G w) (hH : ∀ w, G w → w.rangeAt 2 0 (FC hf)) (hB : ∀ w, G w → Calls Tryd.prog 7 #[] w (Ret (.bool true) w)) (kl : 0 ≤ k) (ku : k < 256) (hm : k % 4 = m) (m1 : m ≠ 1) (m2 : m ≠ 2) (hr : (x * x).sq2 = r) (hri : (x * x).is2 = true) (hs : x.sq2 = s) (hsi : x.is2 = true) (hss : s * s = x) (hy : -x = y) (hgr : r.great = false) (hgz : x.great = true) (hgy : y.great = false) (h0 : x ≠ 0) (hrz : r ≠ x) (hry : r = y) : Calls Tryd.prog 6 #[PV x, .int .u8 k] w (Ret (.bool true) w) := by
  have hp0 := Heap.start w
  go_enter Tryd.func6, Tryd.ntmps6
  refine wp_seq_k (fun K1 k1 => ?_)
  refine goes (ks := [.alloc (PC x), .det (.bool false)]) (T := [0, 0]) (nt := 77) (nh := 0) (H := []) (A := fun L => [PV x, .int .u8 k, .pointer (some ⟨L.b 0, 0, none⟩), undef, .bool false, undef, undef, undef, undef, undef, undef, undef, undef, undef, undef, undef, undef, undef, undef, undef, undef, undef, undef, undef, undef, undef, undef, undef, undef, undef, undef, undef, undef, undef, undef, undef, undef, undef, undef, undef, undef, undef, undef, undef, undef, undef, undef, undef, undef, undef, undef, undef, undef, undef, undef, undef, undef, undef, undef, undef, undef, undef, undef, undef, undef, undef, undef, undef, undef, undef, undef, undef, undef, undef, undef, undef, undef]) (H' := fun L => [(L.b 0, PC x)]) (by kernel_rfl) rfl rfl rfl (fun L => by kernel_rfl) (fun L => by kernel_rfl) hp0 ⟨
    ob_box (v := PV x) (fun _ => rfl) rfl rfl (fun _ => by kernel_rfl) rfl,
    ob_assign (fun _ => rfl) rfl rfl (fun _ => by kernel_rfl),
    trivial⟩ (fun L0 w1 hp1 => ?_)
  refine k1 _ _ ?_
  refine wp_seq_k (fun K2 k2 => ?_)
  refine wp_seq_k (fun K3 k3 => ?_)
  refine goes (ks := [.det (.bool true), .det (.bool false)]) (T := [0, 1]) (nt := 77) (nh := 1) (H := [((L0.b 0), PC x)]) (A := fun L => [PV x, .int .u8 k, .pointer (some ⟨(L0.b 0), 0, none⟩), undef, .bool false, undef, undef, undef, undef, .bool true, .bool false, undef, undef, undef, undef, undef, undef, undef, undef, undef, undef, undef, undef, undef, undef, undef, undef, undef, undef, undef, undef, undef, undef, undef, undef, undef, undef, undef, undef, undef, undef, undef, undef, undef, undef, undef, undef, undef, undef, undef, undef, undef, undef, undef, undef, undef, undef, undef, undef, undef, undef, undef, undef, undef, undef, undef, undef, undef, undef, undef, undef, undef, undef, undef, undef, undef, undef]) (H' := fun L => [((L0.b 0), PC x)]) (by kernel_rfl) rfl rfl rfl (fun L => by kernel_rfl) (fun L => by kernel_rfl) hp1 ⟨
    ob_call (vs := #[]) (by kernel_rfl) (by kernel_rfl) (fun _ => rfl) rfl rfl (fun _ => by kernel_rfl) (fun w hb _ => hB w (K.stay hg hb)),
    ob_not (b := true) (fun _ => rfl) rfl rfl (fun _ => by kernel_rfl),
    trivial⟩ (fun L1 w2 hp2 => ?_)
  refine k3 _ _ ?_
  refine wp_cond_false (by kernel_rfl) ?_
  refine skips ?_
  refine k2 _ _ ?_
  refine wp_seq_k (fun K4 k4 => ?_)
  refine wp_seq_k (fun K5 k5 => ?_)
  refine goes (ks := [.det (PV x), .det (.bool true), .det (.bool false)]) (T := [0, 1, 3]) (nt := 77) (nh := 1) (H := [((L0.b 0), PC x)]) (A := fun L => [PV x, .int .u8 k, .pointer (some ⟨(L0.b 0), 0, none⟩), undef, .bool false, undef, undef, undef, undef, .bool true, .bool false, PV x, .bool true, .bool false, undef, undef, undef, undef, undef, undef, undef, undef, undef, undef, undef, undef, undef, undef, undef, undef, undef, undef, undef, undef, undef, undef, undef, undef, undef, undef, undef, undef, undef, undef, undef, undef, undef, undef, undef, undef, undef, undef, undef, undef, undef, undef, undef, undef, undef, undef, undef, undef, undef, undef, undef, undef, undef, undef, undef, undef, undef, undef, undef, undef, undef, undef, undef]) (H' := fun L => [((L0.b 0), PC x)]) (by kernel_rfl) rfl rfl rfl (fun L => by kernel_rfl) (fun L => by kernel_rfl) hp2 ⟨
    ob_load (b := (L0.b 0)) (off := 0) (cs := PC x) (by kernel_rfl) (fun _ => rfl) rfl rfl (fun _ => by kernel_rfl) (fun _ _ hs => (seen_at (k := 0) hs rfl).cells) Tryd.underlying26 rfl (sizePC _),
    ob_call (vs := #[PV x]) (by kernel_rfl) (by kernel_rfl) (fun _ => rfl) rfl rfl (fun _ => by kernel_rfl) (fun w _ _ => ref5MayP R _ w),
    ob_not (b := true) (fun _ => rfl) rfl rfl (fun _ => by kernel_rfl),
    trivial⟩ (fun L2 w3 hp3 => ?_)
  refine k5 _ _ ?_
  refine wp_cond_false (by kernel_rfl) ?_
  refine skips ?_
  refine k4 _ _ ?_
  refine wp_seq_k (fun K6 k6 => ?_)
  refine wp_seq_k (fun K7 k7 => ?_)
  refine goes (ks := [.det (.int .u8 k), .det (.int .u8 m), .det (.bool false)]) (T := [0, 1, 3]) (nt := 77) (nh := 1) (H := [((L0.b 0), PC x)]) (A := fun L => [PV x, .int .u8 k, .pointer (some ⟨(L0.b 0), 0, none⟩), undef, .bool false, undef, undef, undef, undef, .bool true, .bool false, PV x, .bool true, .bool false, .int .u8 k, .int .u8 m, .bool false, undef, undef, undef, undef, undef, undef, undef, undef, undef, undef, undef, undef, undef, undef, undef, undef, undef, undef, undef, undef, undef, undef, undef, undef, undef, undef, undef, undef, undef, undef, undef, undef, undef, undef, undef, undef, undef, undef, undef, undef, undef, undef, undef, undef, undef, undef, undef, undef, undef, undef, undef, undef, undef, undef, undef, undef, undef, undef, undef, undef]) (H' := fun L => [((L0.b 0), PC x)]) (by kernel_rfl) rfl rfl rfl (fun L => by kernel_rfl) (fun L => by kernel_rfl) hp3 ⟨
    ob_move (fun _ => rfl) rfl rfl (fun _ => by kernel_rfl),
    ob_bin (u := .int .u8 k) (v := .int .u8 4) (fun _ => rfl) rfl rfl (fun _ => by kernel_rfl) (fun _ => by kernel_rfl) (fun w => guardI _ _ _ _ _ _ _ _ w) (fun w => rem4 _ _ _ kl ku hm w),
    ob_bin (u := .int .u8 m) (v := .int .u8 1) (fun _ => rfl) rfl rfl (fun _ => by kernel_rfl) (fun _ => by kernel_rfl) (fun w => guardI _ _ _ _ _ _ _ _ w) (fun w => (eqlI _ _ _ _ w).trans (by rw [decide_eq_false m1])),
    trivial⟩ (fun L3 w4 hp4 => ?_)
  refine k7 _ _ ?_
  refine wp_cond_false (by kernel_rfl) ?_
  refine wp_seq_k (fun K8 k8 => ?_)
  refine goes (ks := [.det (.int .u8 k), .det (.int .u8 m), .det (.bool false)]) (T := [0, 1, 3]) (nt := 77) (nh := 1) (H := [((L0.b 0), PC x)]) (A := fun L => [PV x, .int .u8 k, .pointer (some ⟨(L0.b 0), 0, none⟩), undef, .bool false, undef, undef, undef, undef, .bool true, .bool false, PV x, .bool true, .bool false, .int .u8 k, .int .u8 m, .bool false, undef, undef, .int .u8 k, .int .u8 m, .bool false, undef, undef, undef, undef, undef, undef, undef, undef, undef, undef, undef, undef, undef, undef, undef, undef, undef, undef, undef, undef, undef, undef, undef, undef, undef, undef, undef, undef, undef, undef, undef, undef, undef, undef, undef, undef, undef, undef, undef, undef, undef, undef, undef, undef, undef, undef, undef, undef, undef, undef, undef, undef, undef, undef, undef]) (H' := fun L => [((L0.b 0), PC x)]) (by kernel_rfl) rfl rfl rfl (fun L => by kernel_rfl) (fun L => by kernel_rfl) hp4 ⟨
    ob_move (fun _ => rfl) rfl rfl (fun _ => by kernel_rfl),
    ob_bin (u := .int .u8 k) (v := .int .u8 4) (fun _ => rfl) rfl rfl (fun _ => by kernel_rfl) (fun _ => by kernel_rfl) (fun w => guardI _ _ _ _ _ _ _ _ w) (fun w => rem4 _ _ _ kl ku hm w),
    ob_bin (u := .int .u8 m) (v := .int .u8 2) (fun _ => rfl) rfl rfl (fun _ => by kernel_rfl) (fun _ => by kernel_rfl) (fun w => guardI _ _ _ _ _ _ _ _ w) (fun w => (eqlI _ _ _ _ w).trans (by rw [decide_eq_false m2])),
    trivial⟩ (fun L4 w5 hp5 => ?_)
  refine k8 _ _ ?_
  refine wp_cond_false (by kernel_rfl) ?_
  refine skips ?_
  refine k6 _ _ ?_
  refine wp_seq_k (fun K9 k9 => ?_)
  refine goes (ks := [.det (PV x), .det (PV x), .det (PV (x * x)), .det (.tuple #[PV r, .bool true]), .det (.tuple #[PV r, .bool true]), .det (PV r), .det (.bool true), .alloc (PC 0), .store (.new 7) 0 (PC r) (PC r), .det (.bool true)]) (T := [0, 0, 3, 7, 15, 31, 31, 0, 191, 511]) (nt := 77) (nh := 1) (H := [((L0.b 0), PC x)]) (A := fun L => [PV x, .int .u8 k, .pointer (some ⟨(L0.b 0), 0, none⟩), undef, .bool false, .pointer (some ⟨L.b 7, 0, none⟩), .bool true, undef, undef, .bool true, .bool false, PV x, .bool true, .bool false, .int .u8 k, .int .u8 m, .bool false, undef, undef, .int .u8 k, .int .u8 m, .bool false, undef, undef, .tuple #[PV r, .bool true], PV x, PV x, PV (x * x), .tuple #[PV r, .bool true], PV r, .bool true, undef, undef, undef, undef, undef, undef, undef, undef, undef, undef, undef, undef, undef, undef, undef, undef, undef, undef, undef, undef, undef, undef, undef, undef, undef, undef, undef, undef, undef, undef, undef, undef, undef, undef, undef, undef, undef, undef, undef, undef, undef, undef, undef, undef, undef, undef]) (H' := fun L => [((L0.b 0), PC x), (L.b 7, PC r)]) (by kernel_rfl) rfl rfl rfl (fun L => by kernel_rfl) (fun L => by kernel_rfl) hp5 ⟨
    ob_load (b := (L0.b 0)) (off := 0) (cs := PC x) (by kernel_rfl) (fun _ => rfl) rfl rfl (fun _ => by kernel_rfl) (fun _ _ hs => (seen_at (k := 0) hs rfl).cells) Tryd.underlying26 rfl (sizePC _),
    ob_load (b := (L0.b 0)) (off := 0) (cs := PC x) (by kernel_rfl) (fun _ => rfl) rfl rfl (fun _ => by kernel_rfl) (fun _ _ hs => (seen_at (k := 0) hs rfl).cells) Tryd.underlying26 rfl (sizePC _),
    ob_call (vs := #[PV x, PV x]) (by kernel_rfl) (by kernel_rfl) (fun _ => rfl) rfl rfl (fun _ => by kernel_rfl) (fun w hb _ => fp2Mul K _ _ w (K.stay hg hb)),
    ob_call (vs := #[PV (x * x)]) (by kernel_rfl) (by kernel_rfl) (fun _ => rfl) rfl rfl (fun _ => by kernel_rfl) (fun w hb _ => by have e := fp2Sqrt K (x * x) w (K.stay hg hb) hH; rw [hr, hri] at e; exact e),
    ob_move (fun _ => rfl) rfl rfl (fun _ => by kernel_rfl),
    ob_extract (vs := #[PV r, .bool true]) (fun _ => rfl) rfl rfl (fun _ => by kernel_rfl) rfl,
    ob_extract (vs := #[PV r, .bool true]) (fun _ => rfl) rfl rfl (fun _ => by kernel_rfl) rfl,
    ob_alloc (v := PV 0) (fun _ => rfl) rfl rfl zeroP rfl,
    ob_store (old := PC 0) (fun _ => rfl) rfl rfl (fun _ => by kernel_rfl) (fun _ => by kernel_rfl) rfl (sizePC _) (PC_one _) (le_len (PC_len _) (PC_len _) (by decide)) (splice_all ((PC_len _).trans (PC_len _).symm)).symm,
    ob_assign (fun _ => rfl) rfl rfl (fun _ => by kernel_rfl),
    trivial⟩ (fun L5 w6 hp6 => ?_)
  refine k9 _ _ ?_
  refine wp_seq_k (fun K10 k10 => ?_)
  refine goes (ks := [.det (PV x), .det (.tuple #[PV s, .bool true]), .det (.tuple #[PV s, .bool true]), .det (PV s), .det (.bool true), .alloc (PC 0), .store (.new 5) 0 (PC s) (PC s), .det (.bool true)]) (T := [0, 1, 3, 7, 7, 0, 47, 127]) (nt := 77) (nh := 2) (H := [((L0.b 0), PC x), ((L5.b 7), PC r)]) (A := fun L => [PV x, .int .u8 k, .pointer (some ⟨(L0.b 0), 0, none⟩), undef, .bool false, .pointer (some ⟨(L5.b 7), 0, none⟩), .bool true, .pointer (some ⟨L.b 5, 0, none⟩), .bool true, .bool true, .bool false, PV x, .bool true, .bool false, .int .u8 k, .int .u8 m, .bool false, undef, undef, .int .u8 k, .int .u8 m, .bool false, undef, undef, .tuple #[PV r, .bool true], PV x, PV x, PV (x * x), .tuple #[PV r, .bool true], PV r, .bool true, .tuple #[PV s, .bool true], PV x, .tuple #[PV s, .bool true], PV s, .bool true, undef, undef, undef, undef, undef, undef, undef, undef, undef, undef, undef, undef, undef, undef, undef, undef, undef, undef, undef, undef, undef, undef, undef, undef, undef, undef, undef, undef, undef, undef, undef, undef, undef, undef, undef, undef, undef, undef, undef, undef, undef]) (H' := fun L => [((L0.b 0), PC x), ((L5.b 7), PC r), (L.b 5, PC s)]) (by kernel_rfl) rfl rfl rfl (fun L => by kernel_rfl) (fun L => by kernel_rfl) hp6 ⟨
    ob_load (b := (L0.b 0)) (off := 0) (cs := PC x) (by kernel_rfl) (fun _ => rfl) rfl rfl (fun _ => by kernel_rfl) (fun _ _ hs => (seen_at (k := 0) hs rfl).cells) Tryd.underlying26 rfl (sizePC _),
    ob_call (vs := #[PV x]) (by kernel_rfl) (by kernel_rfl) (fun _ => rfl) rfl rfl (fun _ => by kernel_rfl) (fun w hb _ => by have e := fp2Sqrt K x w (K.stay hg hb) hH; rw [hs, hsi] at e; exact e),
    ob_move (fun _ => rfl) rfl rfl (fun _ => by kernel_rfl),
    ob_extract (vs := #[PV s, .bool true]) (fun _ => rfl) rfl rfl (fun _ => by kernel_rfl) rfl,
    ob_extract (vs := #[PV s, .bool true]) (fun _ => rfl) rfl rfl (fun _ => by kernel_rfl) rfl,
    ob_alloc (v := PV 0) (fun _ => rfl) rfl rfl zeroP rfl,
    ob_store (old := PC 0) (fun _ => rfl) rfl rfl (fun _ => by kernel_rfl) (fun _ => by kernel_rfl) rfl (sizePC _) (PC_one _) (le_len (PC_len _) (PC_len _) (by decide)) (splice_all ((PC_len _).trans (PC_len _).symm)).symm,
    ob_assign (fun _ => rfl) rfl rfl (fun _ => by kernel_rfl),
    trivial⟩ (fun L6 w7 hp7 => ?_)
  refine k10 _ _ ?_
  refine wp_seq_k (fun K11 k11 => ?_)
  refine draws (by kernel_rfl) (ks := [.det (.bool true), .det (.bool true), .det (PV r), .det (PV x), .det (.bool false), .det (.bool false), .det (PV r), .det (PV x), .det (PV y), .det (.bool true), .det (.bool true), .det (.bool true), .det (.bool true), .det (PV r), .det (.bool false), .det (.bool true), .det (.bool true), .det (.bool true), .det (.bool true), .det (.bool false), .det (.bool false), .det (PV s), .det (PV s), .det (PV x), .det (PV x), .det (.bool true), .det (.bool true), .det (.bool true), .det (.bool true), .det (PV x), .det (PV 0), .det (.bool false), .det (.bool false), .det (PV x), .det (.bool true), .det (PV x), .det (PV y), .det (.bool false), .det (.bool true), .det (.bool true), .det (.bool true), .det (.bool true)]) (T := [0, 1, 3, 3, 15, 31, 63, 63, 191, 511, 1023, 2047, 4095, 8191, 16383, 32767, 65535, 131071, 262143, 524287, 1048575, 2097151, 2097151, 8388607, 2097151, 33554431, 67108863, 134217727, 268435455, 536870911, 536870911, 2147483647, 4294967295, 8589934591, 17179869183, 8589934591, 68719476735, 137438953471, 274877906943, 549755813887, 1099511627775, 2199023255551]) (nt := 77) (nh := 3) (H := [((L0.b 0), PC x), ((L5.b 7), PC r), ((L6.b 5), PC s)]) (A := fun L => [PV x, .int .u8 k, .pointer (some ⟨(L0.b 0), 0, none⟩), undef, .bool true, .pointer (some ⟨(L5.b 7), 0, none⟩), .bool true, .pointer (some ⟨(L6.b 5), 0, none⟩), .bool true, .bool true, .bool false, PV x, .bool true, .bool false, .int .u8 k, .int .u8 m, .bool false, undef, undef, .int .u8 k, .int .u8 m, .bool false, undef, undef, .tuple #[PV r, .bool true], PV x, PV x, PV (x * x), .tuple #[PV r, .bool true], PV r, .bool true, .tuple #[PV s, .bool true], PV x, .tuple #[PV s, .bool true], PV s, .bool true, .bool true, .bool true, PV r, PV x, .bool false, .bool false, PV r, PV x, PV y, .bool true, .bool true, .bool true, .bool true, PV r, .bool false, .bool true, .bool true, .bool true, .bool true, .bool false, .bool false, PV s, PV s, PV x, PV x, .bool true, .bool true, .bool true, .bool true, PV x, PV 0, .bool false, .bool false, PV x, .bool true, PV x, PV y, .bool false, .bool true, .bool true, .bool true]) (H' := fun L => [((L0.b 0), PC x), ((L5.b 7), PC r), ((L6.b 5), PC s)]) (by kernel_rfl) rfl rfl rfl (fun L => by kernel_rfl) (fun L => by kernel_rfl) hp7 ⟨
    ob_move (fun _ => rfl) rfl rfl (fun _ => by kernel_rfl),
    ob_move (fun _ => rfl) rfl rfl (fun _ => by kernel_rfl),
    ob_load (b := (L5.b 7)) (off := 0) (cs := PC r) (by kernel_rfl) (fun _ => by kernel_rfl) rfl rfl (fun _ => by kernel_rfl) (fun _ _ hs => (seen_at (k := 1) hs rfl).cells) Tryd.underlying26 rfl (sizePC _),
    ob_load (b := (L0.b 0)) (off := 0) (cs := PC x) (by kernel_rfl) (fun _ => by kernel_rfl) rfl rfl (fun _ => by kernel_rfl) (fun _ _ hs => (seen_at (k := 0) hs rfl).cells) Tryd.underlying26 rfl (sizePC _),
    ob_eq (u := PV r) (v := PV x) (fun _ => by kernel_rfl) rfl rfl (fun _ => by kernel_rfl) (fun _ => by kernel_rfl) (fun w => guardP _ _ _ _ _ w) (fun w => (eqlP _ _ w).trans (by rw [decide_eq_false (hrz)]; try rfl)),
    ob_move (fun _ => by kernel_rfl) rfl rfl (fun _ => by kernel_rfl),
    ob_load (b := (L5.b 7)) (off := 0) (cs := PC r) (by kernel_rfl) (fun _ => by kernel_rfl) rfl rfl (fun _ => by kernel_rfl) (fun _ _ hs => (seen_at (k := 1) hs rfl).cells) Tryd.underlying26 rfl (sizePC _),
    ob_load (b := (L0.b 0)) (off := 0) (cs := PC x) (by kernel_rfl) (fun _ => by kernel_rfl) rfl rfl (fun _ => by kernel_rfl) (fun _ _ hs => (seen_at (k := 0) hs rfl).cells) Tryd.underlying26 rfl (sizePC _),
    ob_call (vs := #[PV x]) (by kernel_rfl) (by kernel_rfl) (fun _ => by kernel_rfl) rfl rfl (fun _ => by kernel_rfl) (fun w hb _ => by have e := fp2Neg K x w (K.stay hg hb); rw [hy] at e; exact e),
    ob_eq (u := PV r) (v := PV y) (fun _ => by kernel_rfl) rfl rfl (fun _ => by kernel_rfl) (fun _ => by kernel_rfl) (fun w => guardP _ _ _ _ _ w) (fun w => (eqlP _ _ w).trans (by rw [decide_eq_true (hry)]; try rfl)),
    ob_pickF (fun _ => by kernel_rfl) rfl rfl (fun _ => by kernel_rfl) (fun _ => by kernel_rfl),
    ob_pickT (fun _ => rfl) rfl rfl (fun _ => by kernel_rfl) (fun _ => by kernel_rfl),
    ob_move (fun _ => rfl) rfl rfl (fun _ => by kernel_rfl),
    ob_load (b := (L5.b 7)) (off := 0) (cs := PC r) (by kernel_rfl) (fun _ => by kernel_rfl) rfl rfl (fun _ => by kernel_rfl) (fun _ _ hs => (seen_at (k := 1) hs rfl).cells) Tryd.underlying26 rfl (sizePC _),
    ob_call (vs := #[PV r]) (by kernel_rfl) (by kernel_rfl) (fun _ => by kernel_rfl) rfl rfl (fun _ => by kernel_rfl) (fun w hb _ => by have e := fp2Great K r w (K.stay hg hb); rw [hgr] at e; exact e),
    ob_not (b := false) (fun _ => by kernel_rfl) rfl rfl (fun _ => by kernel_rfl),
    ob_pickT (fun _ => rfl) rfl rfl (fun _ => by kernel_rfl) (fun _ => by kernel_rfl),
    ob_move (fun _ => rfl) rfl rfl (fun _ => by kernel_rfl),
    ob_move (fun _ => by kernel_rfl) rfl rfl (fun _ => by kernel_rfl),
    ob_not (b := true) (fun _ => by kernel_rfl) rfl rfl (fun _ => by kernel_rfl),
    ob_move (fun _ => by kernel_rfl) rfl rfl (fun _ => by kernel_rfl),
    ob_load (b := (L6.b 5)) (off := 0) (cs := PC s) (by kernel_rfl) (fun _ => by kernel_rfl) rfl rfl (fun _ => by kernel_rfl) (fun _ _ hs => (seen_at (k := 2) hs rfl).cells) Tryd.underlying26 rfl (sizePC _),
    ob_load (b := (L6.b 5)) (off := 0) (cs := PC s) (by kernel_rfl) (fun _ => by kernel_rfl) rfl rfl (fun _ => by kernel_rfl) (fun _ _ hs => (seen_at (k := 2) hs rfl).cells) Tryd.underlying26 rfl (sizePC _),
    ob_call (vs := #[PV s, PV s]) (by kernel_rfl) (by kernel_rfl) (fun _ => by kernel_rfl) rfl rfl (fun _ => by kernel_rfl) (fun w hb _ => by have e := fp2Mul K s s w (K.stay hg hb); rw [hss] at e; exact e),
    ob_load (b := (L0.b 0)) (off := 0) (cs := PC x) (by kernel_rfl) (fun _ => by kernel_rfl) rfl rfl (fun _ => by kernel_rfl) (fun _ _ hs => (seen_at (k := 0) hs rfl).cells) Tryd.underlying26 rfl (sizePC _),
    ob_eq (u := PV x) (v := PV x) (fun _ => by kernel_rfl) rfl rfl (fun _ => by kernel_rfl) (fun _ => by kernel_rfl) (fun w => guardP _ _ _ _ _ w) (fun w => (eqlP _ _ w).trans (by rw [decide_eq_true (rfl)]; try rfl)),
    ob_pickF (fun _ => by kernel_rfl) rfl rfl (fun _ => by kernel_rfl) (fun _ => by kernel_rfl),
    ob_pickT (fun _ => rfl) rfl rfl (fun _ => by kernel_rfl) (fun _ => by kernel_rfl),
    ob_move (fun _ => rfl) rfl rfl (fun _ => by kernel_rfl),
    ob_load (b := (L0.b 0)) (off := 0) (cs := PC x) (by kernel_rfl) (fun _ => by kernel_rfl) rfl rfl (fun _ => by kernel_rfl) (fun _ _ hs => (seen_at (k := 0) hs rfl).cells) Tryd.underlying26 rfl (sizePC _),
    ob_build (qs := #[]) (fun _ => by kernel_rfl) rfl rfl (fun _ => by kernel_rfl) buildP0,
    ob_eq (u := PV x) (v := PV 0) (fun _ => by kernel_rfl) rfl rfl (fun _ => by kernel_rfl) (fun _ => by kernel_rfl) (fun w => guardP _ _ _ _ _ w) (fun w => (eqlP _ _ w).trans (by rw [decide_eq_false (h0)]; try rfl)),
    ob_move (fun _ => by kernel_rfl) rfl rfl (fun _ => by kernel_rfl),
    ob_load (b := (L0.b 0)) (off := 0) (cs := PC x) (by kernel_rfl) (fun _ => by kernel_rfl) rfl rfl (fun _ => by kernel_rfl) (fun _ _ hs => (seen_at (k := 0) hs rfl).cells) Tryd.underlying26 rfl (sizePC _),
    ob_call (vs := #[PV x]) (by kernel_rfl) (by kernel_rfl) (fun _ => by kernel_rfl) rfl rfl (fun _ => by kernel_rfl) (fun w hb _ => by have e := fp2Great K x w (K.stay hg hb); rw [hgz] at e; exact e),
    ob_load (b := (L0.b 0)) (off := 0) (cs := PC x) (by kernel_rfl) (fun _ => by kernel_rfl) rfl rfl (fun _ => by kernel_rfl) (fun _ _ hs => (seen_at (k := 0) hs rfl).cells) Tryd.underlying26 rfl (sizePC _),
    ob_call (vs := #[PV x]) (by kernel_rfl) (by kernel_rfl) (fun _ => by kernel_rfl) rfl rfl (fun _ => by kernel_rfl) (fun w hb _ => by have e := fp2Neg K x w (K.stay hg hb); rw [hy] at e; exact e),
    ob_call (vs := #[PV y]) (by kernel_rfl) (by kernel_rfl) (fun _ => by kernel_rfl) rfl rfl (fun _ => by kernel_rfl) (fun w hb _ => by have e := fp2Great K y w (K.stay hg hb); rw [hgy] at e; exact e),
    ob_ne (u := .bool true) (v := .bool false) (fun _ => by kernel_rfl) rfl rfl (fun _ => by kernel_rfl) (fun _ => by kernel_rfl) (fun w => guardB _ _ _ _ _ _ w) (fun w => (neqB _ _ w).trans rfl),
    ob_pickF (fun _ => by kernel_rfl) rfl rfl (fun _ => by kernel_rfl) (fun _ => by kernel_rfl),
    ob_pickT (fun _ => rfl) rfl rfl (fun _ => by kernel_rfl) (fun _ => by kernel_rfl),
    ob_assign (fun _ => rfl) rfl rfl (fun _ => by kernel_rfl),
    trivial⟩ (fun L7 w8 hp8 => ?_)
  refine k11 _ _ ?_
  refine wp_ret ?_
  exact bodyPost_ret (v := .bool true) (res_t rfl (by kernel_rfl) _) rfl ⟨rfl, hp8.bel⟩
set_option maxHeartbeats 4000000 in
theorem sqsa4 {G : World → Prop} (K : FpK G) (R : RefK) (x y r s : F2) (k m : Int) (w : World) (hg : G w) (hH : ∀ w, G w → w.rangeAt 2 0 (FC hf)) (hB : ∀ w, G w → Calls Tryd.prog 7 #[] w (Ret (.bool true) w)) (kl : 0 ≤ k) (ku : k < 256) (hm : k % 4 = m) (m1 : m ≠ 1) (m2 : m ≠ 2) (hr : (x * x).sq2 = r) (hri : (x * x).is2 = true) (hs : x.sq2 = s) (hsi : x.is2 = false) (hy : -x = y) (hgr : r.great = false) (hgz : x.great = true) (hgy : y.great = false) (h0 : x ≠ 0) (hrz : r ≠ x) (hry : r = y) : Calls Tryd.prog 6 #[PV x, .int .u8 k] w (Ret (.bool true) w) := by
  have hp0 := Heap.start w
  go_enter Tryd.func6, Tryd.ntmps6
  refine wp_seq_k (fun K1 k1 => ?_)
  refine goes (ks := [.alloc (PC x), .det (.bool false)]) (T := [0, 0]) (nt := 77) (nh := 0) (H := []) (A := fun L => [PV x, .int .u8 k, .pointer (some ⟨L.b 0, 0, none⟩), undef, .bool false, undef, undef, undef, undef, undef, undef, undef, undef, undef, undef, undef, undef, undef, undef, undef, undef, undef, undef, undef, undef, undef, undef, undef, undef, undef, undef, undef, undef, undef, undef, undef, undef, undef, undef, undef, undef, undef, undef, undef, undef, undef, undef, undef, undef, undef, undef, undef, undef, undef, undef, undef, undef, undef, undef, undef, undef, undef, undef, undef, undef, undef, undef, undef, undef, undef, undef, undef, undef, undef, undef, undef, undef]) (H' := fun L => [(L.b 0, PC x)]) (by kernel_rfl) rfl rfl rfl (fun L => by kernel_rfl) (fun L => by kernel_rfl) hp0 ⟨
    ob_box (v := PV x) (fun _ => rfl) rfl rfl (fun _ => by kernel_rfl) rfl,
    ob_assign (fun _ => rfl) rfl rfl (fun _ => by kernel_rfl),
    trivial⟩ (fun L0 w1 hp1 => ?_)
  refine k1 _ _ ?_
  refine wp_seq_k (fun K2 k2 => ?_)
  refine wp_seq_k (fun K3 k3 => ?_)
  refine goes (ks := [.det (.bool true), .det (.bool false)]) (T := [0, 1]) (nt := 77) (nh := 1) (H := [((L0.b 0), PC x)]) (A := fun L => [PV x, .int .u8 k, .pointer (some ⟨(L0.b 0), 0, none⟩), undef, .bool false, undef, undef, undef, undef, .bool true, .bool false, undef, undef, undef, undef, undef, undef, undef, undef, undef, undef, undef, undef, undef, undef, undef, undef, undef, undef, undef, undef, undef, undef, undef, undef, undef, undef, undef, undef, undef, undef, undef, undef, undef, undef, undef, undef, undef, undef, undef, undef, undef, undef, undef, undef, undef, undef, undef, undef, undef, undef, undef, undef, undef, undef, undef, undef, undef, undef, undef, undef, undef, undef, undef, undef, undef, undef]) (H' := fun L => [((L0.b 0), PC x)]) (by kernel_rfl) rfl rfl rfl (fun L => by kernel_rfl) (fun L => by kernel_rfl) hp1 ⟨
    ob_call (vs := #[]) (by kernel_rfl) (by kernel_rfl) (fun _ => rfl) rfl rfl (fun _ => by kernel_rfl) (fun w hb _ => hB w (K.stay hg hb)),
    ob_not (b := true) (fun _ => rfl) rfl rfl (fun _ => by kernel_rfl),
    trivial⟩ (fun L1 w2 hp2 => ?_)
  refine k3 _ _ ?_
  refine wp_cond_false (by kernel_rfl) ?_
  refine skips ?_
  refine k2 _ _ ?_
  refine wp_seq_k (fun K4 k4 => ?_)
  refine wp_seq_k (fun K5 k5 => ?_)
  refine goes (ks := [.det (PV x), .det (.bool true), .det (.bool false)]) (T := [0, 1, 3]) (nt := 77) (nh := 1) (H := [((L0.b 0), PC x)]) (A := fun L => [PV x, .int .u8 k, .pointer (some ⟨(L0.b 0), 0, none⟩), undef, .bool false, undef, undef, undef, undef, .bool true, .bool false, PV x, .bool true, .bool false, undef, undef, undef, undef, undef, undef, undef, undef, undef, undef, undef, undef, undef, undef, undef, undef, undef, undef, undef, undef, undef, undef, undef, undef, undef, undef, undef, undef, undef, undef, undef, undef, undef, undef, undef, undef, undef, undef, undef, undef, undef, undef, undef, undef, undef, undef, undef, undef, undef, undef, undef, undef, undef, undef, undef, undef, undef, undef, undef, undef, undef, undef, undef]) (H' := fun L => [((L0.b 0), PC x)]) (by kernel_rfl) rfl rfl rfl (fun L => by kernel_rfl) (fun L => by kernel_rfl) hp2 ⟨
    ob_load (b := (L0.b 0)) (off := 0) (cs := PC x) (by kernel_rfl) (fun _ => rfl) rfl rfl (fun _ => by kernel_rfl) (fun _ _ hs => (seen_at (k := 0) hs rfl).cells) Tryd.underlying26 rfl (sizePC _),
    ob_call (vs := #[PV x]) (by kernel_rfl) (by kernel_rfl) (fun _ => rfl) rfl rfl (fun _ => by kernel_rfl) (fun w _ _ => ref5MayP R _ w),
    ob_not (b := true) (fun _ => rfl) rfl rfl (fun _ => by kernel_rfl),
    trivial⟩ (fun L2 w3 hp3 => ?_)
  refine k5 _ _ ?_
  refine wp_cond_false (by kernel_rfl) ?_
  refine skips ?_
  refine k4 _ _ ?_
  refine wp_seq_k (fun K6 k6 => ?_)
  refine wp_seq_k (fun K7 k7 => ?_)
  refine goes (ks := [.det (.int .u8 k), .det (.int .u8 m), .det (.bool false)]) (T := [0, 1, 3]) (nt := 77) (nh := 1) (H := [((L0.b 0), PC x)]) (A := fun L => [PV x, .int .u8 k, .pointer (some ⟨(L0.b 0), 0, none⟩), undef, .bool false, undef, undef, undef, undef, .bool true, .bool false, PV x, .bool true, .bool false, .int .u8 k, .int .u8 m, .bool false, undef, undef, undef, undef, undef, undef, undef, undef, undef, undef, undef, undef, undef, undef, undef, undef, undef, undef, undef, undef, undef, undef, undef, undef, undef, undef, undef, undef, undef, undef, undef, undef, undef, undef, undef, undef, undef, undef, undef, undef, undef, undef, undef, undef, undef, undef, undef, undef, undef, undef, undef, undef, undef, undef, undef, undef, undef, undef, undef, undef]) (H' := fun L => [((L0.b 0), PC x)]) (by kernel_rfl) rfl rfl rfl (fun L => by kernel_rfl) (fun L => by kernel_rfl) hp3 ⟨
    ob_move (fun _ => rfl) rfl rfl (fun _ => by kernel_rfl),
    ob_bin (u := .int .u8 k) (v := .int .u8 4) (fun _ => rfl) rfl rfl (fun _ => by kernel_rfl) (fun _ => by kernel_rfl) (fun w => guardI _ _ _ _ _ _ _ _ w) (fun w => rem4 _ _ _ kl ku hm w),
    ob_bin (u := .int .u8 m) (v := .int .u8 1) (fun _ => rfl) rfl rfl (fun _ => by kernel_rfl) (fun _ => by kernel_rfl) (fun w => guardI _ _ _ _ _ _ _ _ w) (fun w => (eqlI _ _ _ _ w).trans (by rw [decide_eq_false m1])),
    trivial⟩ (fun L3 w4 hp4 => ?_)
  refine k7 _ _ ?_
  refine wp_cond_false (by kernel_rfl) ?_
  refine wp_seq_k (fun K8 k8 => ?_)
  refine goes (ks := [.det (.int .u8 k), .det (.int .u8 m), .det (.bool false)]) (T := [0, 1, 3]) (nt := 77) (nh := 1) (H := [((L0.b 0), PC x)]) (A := fun L => [PV x, .int .u8 k, .pointer (some ⟨(L0.b 0), 0, none⟩), undef, .bool false, undef, undef, undef, undef, .bool true, .bool false, PV x, .bool true, .bool false, .int .u8 k, .int .u8 m, .bool false, undef, undef, .int .u8 k, .int .u8 m, .bool false, undef, undef, undef, undef, undef, undef, undef, undef, undef, undef, undef, undef, undef, undef, undef, undef, undef, undef, undef, undef, undef, undef, undef, undef, undef, undef, undef, undef, undef, undef, undef, undef, undef, undef, undef, undef, undef, undef, undef, undef, undef, undef, undef, undef, undef, undef, undef, undef, undef, undef, undef, undef, undef, undef, undef]) (H' := fun L => [((L0.b 0), PC x)]) (by kernel_rfl) rfl rfl rfl (fun L => by kernel_rfl) (fun L => by kernel_rfl) hp4 ⟨
    ob_move (fun _ => rfl) rfl rfl (fun _ => by kernel_rfl),
    ob_bin (u := .int .u8 k) (v := .int .u8 4) (fun _ => rfl) rfl rfl (fun _ => by kernel_rfl) (fun _ => by kernel_rfl) (fun w => guardI _ _ _ _ _ _ _ _ w) (fun w => rem4 _ _ _ kl ku hm w),
    ob_bin (u := .int .u8 m) (v := .int .u8 2) (fun _ => rfl) rfl rfl (fun _ => by kernel_rfl) (fun _ => by kernel_rfl) (fun w => guardI _ _ _ _ _ _ _ _ w) (fun w => (eqlI _ _ _ _ w).trans (by rw [decide_eq_false m2])),
    trivial⟩ (fun L4 w5 hp5 => ?_)
  refine k8 _ _ ?_
  refine wp_cond_false (by kernel_rfl) ?_
  refine skips ?_
  refine k6 _ _ ?_
  refine wp_seq_k (fun K9 k9 => ?_)
  refine goes (ks := [.det (PV x), .det (PV x), .det (PV (x * x)), .det (.tuple #[PV r, .bool true]), .det (.tuple #[PV r, .bool true]), .det (PV r), .det (.bool true), .alloc (PC 0), .store (.new 7) 0 (PC r) (PC r), .det (.bool true)]) (T := [0, 0, 3, 7, 15, 31, 31, 0, 191, 511]) (nt := 77) (nh := 1) (H := [((L0.b 0), PC x)]) (A := fun L => [PV x, .int .u8 k, .pointer (some ⟨(L0.b 0), 0, none⟩), undef, .bool false, .pointer (some ⟨L.b 7, 0, none⟩), .bool true, undef, undef, .bool true, .bool false, PV x, .bool true, .bool false, .int .u8 k, .int .u8 m, .bool false, undef, undef, .int .u8 k, .int .u8 m, .bool false, undef, undef, .tuple #[PV r, .bool true], PV x, PV x, PV (x * x), .tuple #[PV r, .bool true], PV r, .bool true, undef, undef, undef, undef, undef, undef, undef, undef, undef, undef, undef, undef, undef, undef, undef, undef, undef, undef, undef, undef, undef, undef, undef, undef, undef, undef, undef, undef, undef, undef, undef, undef, undef, undef, undef, undef, undef, undef, undef, undef, undef, undef, undef, undef, undef, undef]) (H' := fun L => [((L0.b 0), PC x), (L.b 7, PC r)]) (by kernel_rfl) rfl rfl rfl (fun L => by kernel_rfl) (fun L => by kernel_rfl) hp5 ⟨
    ob_load (b := (L0.b 0)) (off := 0) (cs := PC x) (by kernel_rfl) (fun _ => rfl) rfl rfl (fun _ => by kernel_rfl) (fun _ _ hs => (seen_at (k := 0) hs rfl).cells) Tryd.underlying26 rfl (sizePC _),
    ob_load (b := (L0.b 0)) (off := 0) (cs := PC x) (by kernel_rfl) (fun _ => rfl) rfl rfl (fun _ => by kernel_rfl) (fun _ _ hs => (seen_at (k := 0) hs rfl).cells) Tryd.underlying26 rfl (sizePC _),
    ob_call (vs := #[PV x, PV x]) (by kernel_rfl) (by kernel_rfl) (fun _ => rfl) rfl rfl (fun _ => by kernel_rfl) (fun w hb _ => fp2Mul K _ _ w (K.stay hg hb)),
    ob_call (vs := #[PV (x * x)]) (by kernel_rfl) (by kernel_rfl) (fun _ => rfl) rfl rfl (fun _ => by kernel_rfl) (fun w hb _ => by have e := fp2Sqrt K (x * x) w (K.stay hg hb) hH; rw [hr, hri] at e; exact e),
    ob_move (fun _ => rfl) rfl rfl (fun _ => by kernel_rfl),
    ob_extract (vs := #[PV r, .bool true]) (fun _ => rfl) rfl rfl (fun _ => by kernel_rfl) rfl,
    ob_extract (vs := #[PV r, .bool true]) (fun _ => rfl) rfl rfl (fun _ => by kernel_rfl) rfl,
    ob_alloc (v := PV 0) (fun _ => rfl) rfl rfl zeroP rfl,
    ob_store (old := PC 0) (fun _ => rfl) rfl rfl (fun _ => by kernel_rfl) (fun _ => by kernel_rfl) rfl (sizePC _) (PC_one _) (le_len (PC_len _) (PC_len _) (by decide)) (splice_all ((PC_len _).trans (PC_len _).symm)).symm,
    ob_assign (fun _ => rfl) rfl rfl (fun _ => by kernel_rfl),
    trivial⟩ (fun L5 w6 hp6 => ?_)
  refine k9 _ _ ?_
  refine wp_seq_k (fun K10 k10 => ?_)
  refine goes (ks := [.det (PV x), .det (.tuple #[PV s, .bool false]), .det (.tuple #[PV s, .bool false]), .det (PV s), .det (.bool false), .alloc (PC 0), .store (.new 5) 0 (PC s) (PC s), .det (.bool false)]) (T := [0, 1, 3, 7, 7, 0, 47, 127]) (nt := 77) (nh := 2) (H := [((L0.b 0), PC x), ((L5.b 7), PC r)]) (A := fun L => [PV x, .int .u8 k, .pointer (some ⟨(L0.b 0), 0, none⟩), undef, .bool false, .pointer (some ⟨(L5.b 7), 0, none⟩), .bool true, .pointer (some ⟨L.b 5, 0, none⟩), .bool false, .bool true, .bool false, PV x, .bool true, .bool false, .int .u8 k, .int .u8 m, .bool false, undef, undef, .int .u8 k, .int .u8 m, .bool false, undef, undef, .tuple #[PV r, .bool true], PV x, PV x, PV (x * x), .tuple #[PV r, .bool true], PV r, .bool true, .tuple #[PV s, .bool false], PV x, .tuple #[PV s, .bool false], PV s, .bool false, undef, undef, undef, undef, undef, undef, undef, undef, undef, undef, undef, undef, undef, undef, undef, undef, undef, undef, undef, undef, undef, undef, undef, undef, undef, undef, undef, undef, undef, undef, undef, undef, undef, undef, undef, undef, undef, undef, undef, undef, undef]) (H' := fun L => [((L0.b 0), PC x), ((L5.b 7), PC r), (L.b 5, PC s)]) (by kernel_rfl) rfl rfl rfl (fun L => by kernel_rfl) (fun L => by kernel_rfl) hp6 ⟨
    ob_load (b := (L0.b 0)) (off := 0) (cs := PC x) (by kernel_rfl) (fun _ => rfl) rfl rfl (fun _ => by kernel_rfl) (fun _ _ hs => (seen_at (k := 0) hs rfl).cells) Tryd.underlying26 rfl (sizePC _),
    ob_call (vs := #[PV x]) (by kernel_rfl) (by kernel_rfl) (fun _ => rfl) rfl rfl (fun _ => by kernel_rfl) (fun w hb _ => by have e := fp2Sqrt K x w (K.stay hg hb) hH; rw [hs, hsi] at e; exact e),
    ob_move (fun _ => rfl) rfl rfl (fun _ => by kernel_rfl),
    ob_extract (vs := #[PV s, .bool false]) (fun _ => rfl) rfl rfl (fun _ => by kernel_rfl) rfl,
    ob_extract (vs := #[PV s, .bool false]) (fun _ => rfl) rfl rfl (fun _ => by kernel_rfl) rfl,
    ob_alloc (v := PV 0) (fun _ => rfl) rfl rfl zeroP rfl,
    ob_store (old := PC 0) (fun _ => rfl) rfl rfl (fun _ => by kernel_rfl) (fun _ => by kernel_rfl) rfl (sizePC _) (PC_one _) (le_len (PC_len _) (PC_len _) (by decide)) (splice_all ((PC_len _).trans (PC_len _).symm)).symm,
    ob_assign (fun _ => rfl) rfl rfl (fun _ => by kernel_rfl),
    trivial⟩ (fun L6 w7 hp7 => ?_)
  refine k10 _ _ ?_
  refine wp_seq_k (fun K11 k11 => ?_)
  refine draws (by kernel_rfl) (ks := [.det (.bool true), .det (.bool true), .det (PV r), .det (PV x), .det (.bool false), .det (.bool false), .det (PV r), .det (PV x), .det (PV y), .det (.bool true), .det (.bool true), .det (.bool true), .det (.bool true), .det (PV r), .det (.bool false), .det (.bool true), .det (.bool true), .det (.bool true), .det (.bool false), .det (.bool true), .det (.bool true), .det undef, .det undef, .det undef, .det undef, .det undef, .det (.bool true), .det (.bool true), .det (.bool true), .det (PV x), .det (PV 0), .det (.bool false), .det (.bool false), .det (PV x), .det (.bool true), .det (PV x), .det (PV y), .det (.bool false), .det (.bool true), .det (.bool true), .det (.bool true), .det (.bool true)]) (T := [0, 1, 3, 3, 15, 31, 63, 63, 191, 511, 1023, 2047, 4095, 8191, 16383, 32767, 65535, 131071, 262143, 524287, 1048575, 2097151, 2097151, 8388607, 2097151, 33554431, 67108863, 134217727, 268435455, 536870911, 536870911, 2147483647, 4294967295, 8589934591, 17179869183, 8589934591, 68719476735, 137438953471, 274877906943, 549755813887, 1099511627775, 2199023255551]) (nt := 77) (nh := 3) (H := [((L0.b 0), PC x), ((L5.b 7), PC r), ((L6.b 5), PC s)]) (A := fun L => [PV x, .int .u8 k, .pointer (some ⟨(L0.b 0), 0, none⟩), undef, .bool true, .pointer (some ⟨(L5.b 7), 0, none⟩), .bool true, .pointer (some ⟨(L6.b 5), 0, none⟩), .bool false, .bool true, .bool false, PV x, .bool true, .bool false, .int .u8 k, .int .u8 m, .bool false, undef, undef, .int .u8 k, .int .u8 m, .bool false, undef, undef, .tuple #[PV r, .bool true], PV x, PV x, PV (x * x), .tuple #[PV r, .bool true], PV r, .bool true, .tuple #[PV s, .bool false], PV x, .tuple #[PV s, .bool false], PV s, .bool false, .bool true, .bool true, PV r, PV x, .bool false, .bool false, PV r, PV x, PV y, .bool true, .bool true, .bool true, .bool true, PV r, .bool false, .bool true, .bool true, .bool true, .bool false, .bool true, .bool true, undef, undef, undef, undef, undef, .bool true, .bool true, .bool true, PV x, PV 0, .bool false, .bool false, PV x, .bool true, PV x, PV y, .bool false, .bool true, .bool true, .bool true]) (H' := fun L => [((L0.b 0), PC x), ((L5.b 7), PC r), ((L6.b 5), PC s)]) (by kernel_rfl) rfl rfl rfl (fun L => by kernel_rfl) (fun L => by kernel_rfl) hp7 ⟨
    ob_move (fun _ => rfl) rfl rfl (fun _ => by kernel_rfl),
    ob_move (fun _ => rfl) rfl rfl (fun _ => by kernel_rfl),
    ob_load (b := (L5.b 7)) (off := 0) (cs := PC r) (by kernel_rfl) (fun _ => by kernel_rfl) rfl rfl (fun _ => by kernel_rfl) (fun _ _ hs => (seen_at (k := 1) hs rfl).cells) Tryd.underlying26 rfl (sizePC _),
    ob_load (b := (L0.b 0)) (off := 0) (cs := PC x) (by kernel_rfl) (fun _ => by kernel_rfl) rfl rfl (fun _ => by kernel_rfl) (fun _ _ hs => (seen_at (k := 0) hs rfl).cells) Tryd.underlying26 rfl (sizePC _),
    ob_eq (u := PV r) (v := PV x) (fun _ => by kernel_rfl) rfl rfl (fun _ => by kernel_rfl) (fun _ => by kernel_rfl) (fun w => guardP _ _ _ _ _ w) (fun w => (eqlP _ _ w).trans (by rw [decide_eq_false (hrz)]; try rfl)),
    ob_move (fun _ => by kernel_rfl) rfl rfl (fun _ => by kernel_rfl),
    ob_load (b := (L5.b 7)) (off := 0) (cs := PC r) (by kernel_rfl) (fun _ => by kernel_rfl) rfl rfl (fun _ => by kernel_rfl) (fun _ _ hs => (seen_at (k := 1) hs rfl).cells) Tryd.underlying26 rfl (sizePC _),
    ob_load (b := (L0.b 0)) (off := 0) (cs := PC x) (by kernel_rfl) (fun _ => by kernel_rfl) rfl rfl (fun _ => by kernel_rfl) (fun _ _ hs => (seen_at (k := 0) hs rfl).cells) Tryd.underlying26 rfl (sizePC _),
    ob_call (vs := #[PV x]) (by kernel_rfl) (by kernel_rfl) (fun _ => by kernel_rfl) rfl rfl (fun _ => by kernel_rfl) (fun w hb _ => by have e := fp2Neg K x w (K.stay hg hb); rw [hy] at e; exact e),
    ob_eq (u := PV r) (v := PV y) (fun _ => by kernel_rfl) rfl rfl (fun _ => by kernel_rfl) (fun _ => by kernel_rfl) (fun w => guardP _ _ _ _ _ w) (fun w => (eqlP _ _ w).trans (by rw [decide_eq_true (hry)]; try rfl)),
    ob_pickF (fun _ => by kernel_rfl) rfl rfl (fun _ => by kernel_rfl) (fun _ => by kernel_rfl),
    ob_pickT (fun _ => rfl) rfl rfl (fun _ => by kernel_rfl) (fun _ => by kernel_rfl),
    ob_move (fun _ => rfl) rfl rfl (fun _ => by kernel_rfl),
    ob_load (b := (L5.b 7)) (off := 0) (cs := PC r) (by kernel_rfl) (fun _ => by kernel_rfl) rfl rfl (fun _ => by kernel_rfl) (fun _ _ hs => (seen_at (k := 1) hs rfl).cells) Tryd.underlying26 rfl (sizePC _),
    ob_call (vs := #[PV r]) (by kernel_rfl) (by kernel_rfl) (fun _ => by kernel_rfl) rfl rfl (fun _ => by kernel_rfl) (fun w hb _ => by have e := fp2Great K r w (K.stay hg hb); rw [hgr] at e; exact e),
    ob_not (b := false) (fun _ => by kernel_rfl) rfl rfl (fun _ => by kernel_rfl),
    ob_pickT (fun _ => rfl) rfl rfl (fun _ => by kernel_rfl) (fun _ => by kernel_rfl),
    ob_move (fun _ => rfl) rfl rfl (fun _ => by kernel_rfl),
    ob_move (fun _ => by kernel_rfl) rfl rfl (fun _ => by kernel_rfl),
    ob_not (b := false) (fun _ => by kernel_rfl) rfl rfl (fun _ => by kernel_rfl),
    ob_move (fun _ => by kernel_rfl) rfl rfl (fun _ => by kernel_rfl),
    ob_skip (fun _ => by kernel_rfl) rfl,
    ob_skip (fun _ => by kernel_rfl) rfl,
    ob_skip (fun _ => by kernel_rfl) rfl,
    ob_skip (fun _ => by kernel_rfl) rfl,
    ob_skip (fun _ => by kernel_rfl) rfl,
    ob_pickT (fun _ => by kernel_rfl) rfl rfl (fun _ => by kernel_rfl) (fun _ => by kernel_rfl),
    ob_pickT (fun _ => rfl) rfl rfl (fun _ => by kernel_rfl) (fun _ => by kernel_rfl),
    ob_move (fun _ => rfl) rfl rfl (fun _ => by kernel_rfl),
    ob_load (b := (L0.b 0)) (off := 0) (cs := PC x) (by kernel_rfl) (fun _ => by kernel_rfl) rfl rfl (fun _ => by kernel_rfl) (fun _ _ hs => (seen_at (k := 0) hs rfl).cells) Tryd.underlying26 rfl (sizePC _),
    ob_build (qs := #[]) (fun _ => by kernel_rfl) rfl rfl (fun _ => by kernel_rfl) buildP0,
    ob_eq (u := PV x) (v := PV 0) (fun _ => by kernel_rfl) rfl rfl (fun _ => by kernel_rfl) (fun _ => by kernel_rfl) (fun w => guardP _ _ _ _ _ w) (fun w => (eqlP _ _ w).trans (by rw [decide_eq_false (h0)]; try rfl)),
    ob_move (fun _ => by kernel_rfl) rfl rfl (fun _ => by kernel_rfl),
    ob_load (b := (L0.b 0)) (off := 0) (cs := PC x) (by kernel_rfl) (fun _ => by kernel_rfl) rfl rfl (fun _ => by kernel_rfl) (fun _ _ hs => (seen_at (k := 0) hs rfl).cells) Tryd.underlying26 rfl (sizePC _),
    ob_call (vs := #[PV x]) (by kernel_rfl) (by kernel_rfl) (fun _ => by kernel_rfl) rfl rfl (fun _ => by kernel_rfl) (fun w hb _ => by have e := fp2Great K x w (K.stay hg hb); rw [hgz] at e; exact e),
    ob_load (b := (L0.b 0)) (off := 0) (cs := PC x) (by kernel_rfl) (fun _ => by kernel_rfl) rfl rfl (fun _ => by kernel_rfl) (fun _ _ hs => (seen_at (k := 0) hs rfl).cells) Tryd.underlying26 rfl (sizePC _),
    ob_call (vs := #[PV x]) (by kernel_rfl) (by kernel_rfl) (fun _ => by kernel_rfl) rfl rfl (fun _ => by kernel_rfl) (fun w hb _ => by have e := fp2Neg K x w (K.stay hg hb); rw [hy] at e; exact e),
    ob_call (vs := #[PV y]) (by kernel_rfl) (by kernel_rfl) (fun _ => by kernel_rfl) rfl rfl (fun _ => by kernel_rfl) (fun w hb _ => by have e := fp2Great K y w (K.stay hg hb); rw [hgy] at e; exact e),
    ob_ne (u := .bool true) (v := .bool false) (fun _ => by kernel_rfl) rfl rfl (fun _ => by kernel_rfl) (fun _ => by kernel_rfl) (fun w => guardB _ _ _ _ _ _ w) (fun w => (neqB _ _ w).trans rfl),
    ob_pickF (fun _ => by kernel_rfl) rfl rfl (fun _ => by kernel_rfl) (fun _ => by kernel_rfl),
    ob_pickT (fun _ => rfl) rfl rfl (fun _ => by kernel_rfl) (fun _ => by kernel_rfl),
    ob_assign (fun _ => rfl) rfl rfl (fun _ => by kernel_rfl),
    trivial⟩ (fun L7 w8 hp8 => ?_)
  refine k11 _ _ ?_
  refine wp_ret ?_
  exact bodyPost_ret (v := .bool true) (res_t rfl (by kernel_rfl) _) rfl ⟨rfl, hp8.bel⟩
/-- The five ends, for one number. -/
theorem sq_ends (z : F2) {C : Prop}
    (c0 : (z * z).sq2 = z → (z * z).is2 = true → z.is2 = true → z.sq2 * z.sq2 = z → z.great = false → z = 0 → C)
    (c1 : (z * z).sq2 = z → (z * z).is2 = true → z.is2 = true → z.sq2 * z.sq2 = z → z.great = false → (-z).great = true → z ≠ 0 → C)
    (c2 : (z * z).sq2 = z → (z * z).is2 = true → z.is2 = false → z.great = false → (-z).great = true → z ≠ 0 → C)
    (c3 : (z * z).sq2 = -z → (z * z).is2 = true → z.is2 = true → z.sq2 * z.sq2 = z → z.great = true → (-z).great = false → z ≠ 0 → -z ≠ z → C)
    (c4 : (z * z).sq2 = -z → (z * z).is2 = true → z.is2 = false → z.great = true → (-z).great = false → z ≠ 0 → -z ≠ z → C) : C := by
  have hi : (z * z).is2 = true := F2.is2_of rfl
  have hs : ∀ b, z.is2 = b → b = true → z.sq2 * z.sq2 = z := fun b hb h => by
    subst h
    have hx : ∃ r : F2, r * r = z := by
      by_cases h : ∃ r : F2, r * r = z
      · exact h
      · rw [(F2.is2_no (fun r hr => h ⟨r, hr⟩)).1] at hb; cases hb
    obtain ⟨r, hr⟩ := hx
    cases hg : r.great with
    | false => rw [F2.sq2_of hr hg]; exact hr
    | true =>
      have h0 : r ≠ 0 := fun e => by rw [e, F2.great_zero'] at hg; cases hg
      have hr' : -r * -r = z := by rw [F2.neg_mul_neg']; exact hr
      rw [F2.sq2_of hr' (by rw [F2.great_neg' h0, hg]; rfl)]; exact hr'
  cases hg : z.great with
  | false =>
    have hr : (z * z).sq2 = z := F2.sq2_of rfl hg
    by_cases h0 : z = 0
    · have h1 : z.is2 = true := F2.is2_of (r := 0) (by rw [h0]; exact F2.zero_mul' 0)
      exact c0 hr hi h1 (hs _ h1 rfl) hg h0
    · have hn : (-z).great = true := by rw [F2.great_neg' h0, hg]; rfl
      cases hz : z.is2 with
      | true => exact c1 hr hi hz (hs _ hz rfl) hg hn h0
      | false => exact c2 hr hi hz hg hn h0
  | true =>
    have h0 : z ≠ 0 := fun e => by rw [e, F2.great_zero'] at hg; cases hg
    have hn : (-z).great = false := by rw [F2.great_neg' h0, hg]; rfl
    have hr : (z * z).sq2 = -z := F2.sq2_of (F2.neg_mul_neg' z z) hn
    have hne : -z ≠ z := fun e => by rw [e, hg] at hn; cases hn
    cases hz : z.is2 with
    | true => exact c3 hr hi hz (hs _ hz rfl) hg hn h0 hne
    | false => exact c4 hr hi hz hg hn h0 hne

/-- What Fp2Squares answers. -/
theorem fp2Squares_walk {G : World → Prop} (K : FpK G) (R : RefK) (hH : ∀ w, G w → w.rangeAt 2 0 (FC hf)) (f g : Nat → Int) (rf : Rg f 6) (rg : Rg g 6) (k : Int) (k0 : 0 ≤ k) (k1 : k < 256) (w : World) (hg : G w) :
    Calls Tryd.prog 6 #[QV2 f g, .int .u8 k] w (Ret (.bool true) w) := by
  have hB := fun w hg => begun5 K w hg hH
  by_cases lf : val f 6 < RI
  · by_cases lg : val g 6 < RI
    · obtain ⟨a, ha, -⟩ := num_of rf lf
      obtain ⟨b, hb, -⟩ := num_of rg lg
      rw [QV2_of (x := ⟨a, b⟩) ha hb]
      generalize (⟨a, b⟩ : F2) = x
      by_cases qb : k % 4 = 1
      · refine sq_ends (⟨x.c0, 0⟩ : F2) ?_ ?_ ?_ ?_ ?_
        · exact fun h1 h2 h3 h4 h5 h6 => sqsb0 K R x _ _ _ _ k w hg hH hB k0 k1 qb rfl rfl h2 rfl h3 h4 rfl (by rw [h1]; exact h5) h5 h6 h1
        · exact fun h1 h2 h3 h4 h5 h6 h7 => sqsb1 K R x _ _ _ _ k w hg hH hB k0 k1 qb rfl rfl h2 rfl h3 h4 rfl (by rw [h1]; exact h5) h5 h6 h7 h1
        · exact fun h1 h2 h3 h5 h6 h7 => sqsb2 K R x _ _ _ _ k w hg hH hB k0 k1 qb rfl rfl h2 rfl h3 rfl (by rw [h1]; exact h5) h5 h6 h7 h1
        · exact fun h1 h2 h3 h4 h5 h6 h7 h8 => sqsb3 K R x _ _ _ _ k w hg hH hB k0 k1 qb rfl rfl h2 rfl h3 h4 rfl (by rw [h1]; exact h6) h5 h6 h7 (by rw [h1]; exact h8) h1
        · exact fun h1 h2 h3 h5 h6 h7 h8 => sqsb4 K R x _ _ _ _ k w hg hH hB k0 k1 qb rfl rfl h2 rfl h3 rfl (by rw [h1]; exact h6) h5 h6 h7 (by rw [h1]; exact h8) h1
      by_cases qc : k % 4 = 2
      · refine sq_ends (⟨0, x.c1⟩ : F2) ?_ ?_ ?_ ?_ ?_
        · exact fun h1 h2 h3 h4 h5 h6 => sqsc0 K R x _ _ _ _ k w hg hH hB k0 k1 qc rfl rfl h2 rfl h3 h4 rfl (by rw [h1]; exact h5) h5 h6 h1
        · exact fun h1 h2 h3 h4 h5 h6 h7 => sqsc1 K R x _ _ _ _ k w hg hH hB k0 k1 qc rfl rfl h2 rfl h3 h4 rfl (by rw [h1]; exact h5) h5 h6 h7 h1
        · exact fun h1 h2 h3 h5 h6 h7 => sqsc2 K R x _ _ _ _ k w hg hH hB k0 k1 qc rfl rfl h2 rfl h3 rfl (by rw [h1]; exact h5) h5 h6 h7 h1
        · exact fun h1 h2 h3 h4 h5 h6 h7 h8 => sqsc3 K R x _ _ _ _ k w hg hH hB k0 k1 qc rfl rfl h2 rfl h3 h4 rfl (by rw [h1]; exact h6) h5 h6 h7 (by rw [h1]; exact h8) h1
        · exact fun h1 h2 h3 h5 h6 h7 h8 => sqsc4 K R x _ _ _ _ k w hg hH hB k0 k1 qc rfl rfl h2 rfl h3 rfl (by rw [h1]; exact h6) h5 h6 h7 (by rw [h1]; exact h8) h1
      refine sq_ends x ?_ ?_ ?_ ?_ ?_
      · exact fun h1 h2 h3 h4 h5 h6 => sqsa0 K R x _ _ _ k _ w hg hH hB k0 k1 rfl qb qc rfl h2 rfl h3 h4 rfl (by rw [h1]; exact h5) h5 h6 h1
      · exact fun h1 h2 h3 h4 h5 h6 h7 => sqsa1 K R x _ _ _ k _ w hg hH hB k0 k1 rfl qb qc rfl h2 rfl h3 h4 rfl (by rw [h1]; exact h5) h5 h6 h7 h1
      · exact fun h1 h2 h3 h5 h6 h7 => sqsa2 K R x _ _ _ k _ w hg hH hB k0 k1 rfl qb qc rfl h2 rfl h3 rfl (by rw [h1]; exact h5) h5 h6 h7 h1
      · exact fun h1 h2 h3 h4 h5 h6 h7 h8 => sqsa3 K R x _ _ _ k _ w hg hH hB k0 k1 rfl qb qc rfl h2 rfl h3 h4 rfl (by rw [h1]; exact h6) h5 h6 h7 (by rw [h1]; exact h8) h1
      · exact fun h1 h2 h3 h5 h6 h7 h8 => sqsa4 K R x _ _ _ k _ w hg hH hB k0 k1 rfl qb qc rfl h2 rfl h3 rfl (by rw [h1]; exact h6) h5 h6 h7 (by rw [h1]; exact h8) h1
    · exact sqs0 K R f g k w hg hB (fun w _ => ref5May21 R f g w rf rg lf lg)
  · exact sqs0 K R f g k w hg hB (fun w _ => ref5May20 R f g w rf lf)
end Go.Proofs.YtgoghcmnnhglhaaDoor.fpn
