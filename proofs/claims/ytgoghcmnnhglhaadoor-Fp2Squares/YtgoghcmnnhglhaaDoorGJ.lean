/- Fp2SqsB. -/
import Derived.Test.YtgoghcmnnhglhaaDoorGH
import Derived.Test.YtgoghcmnnhglhaaDoorGI
/- Fp2Squares walked: the turn b. -/
namespace Go.Proofs.YtgoghcmnnhglhaaDoor.fpn
open Go.RowKit Pl
set_option linter.unusedVariables false
set_option linter.unusedSimpArgs false
set_option maxRecDepth 4000

set_option maxHeartbeats 4000000 in
theorem sqsb0 {G : World → Prop} (K : FpK G) (R : RefK) (x z y r s : F2) (k : Int) (w : World) (hg : G w) (hH : ∀ w, G w → w.rangeAt 2 0 (FC hf)) (hB : ∀ w, G w → Calls Tryd.prog 7 #[] w (Ret (.bool true) w)) (kl : 0 ≤ k) (ku : k < 256) (hm : k % 4 = 1) (hz : (⟨x.c0, 0⟩ : F2) = z) (hr : (z * z).sq2 = r) (hri : (z * z).is2 = true) (hs : z.sq2 = s) (hsi : z.is2 = true) (hss : s * s = z) (hy : -z = y) (hgr : r.great = false) (hgz : z.great = false) (h0 : z = 0) (hrz : r = z) : Calls Tryd.prog 6 #[PV x, .int .u8 k] w (Ret (.bool true) w) := by
  have hp0 := Heap.start w
  go_enter Tryd.func6, Tryd.ntmps6
  refine wp_seq_k (fun K1 k1 => ?_)
  refine goes (ks := [.alloc (PC x), .det (.bool false)]) (T := [0, 0]) (nt := 77) (nh := 0) (H := []) (A := fun L => [PV x, .int .u8 k, .pointer (some ⟨L.b 0, 0, none⟩), undef, .bool false, undef, undef, undef, undef, undef, undef, undef, undef, undef, undef, undef, undef, undef, undef, undef, undef, undef, undef, undef, undef, undef, undef, undef, undef, undef, undef, undef, undef, undef, undef, undef, undef, undef, undef, undef, undef, undef, undef, undef, undef, undef, undef, undef, undef, undef, undef, undef, undef, undef, undef, undef, undef, undef, undef, undef, undef, undef, undef, undef, undef, undef, undef, undef, undef, undef, undef, undef, undef, undef, undef, undef, undef]) (H' := fun L => [(L.b 0, PC x)]) (by kernel_rfl) rfl rfl rfl (fun L => by kernel_rfl) (fun L => by kernel_rfl) hp0 ⟨
    ob_box (v := PV x) (fun _ => rfl) rfl rfl (fun _ => by kernel_rfl) rfl,
    ob_assign (fun _ => rfl) rfl rfl (fun _ => by kernel_rfl),
    trivial⟩ (fun L0 w1 hp1 => ?_)
  refine k1 _ _ ?_
  refine wp_seq_k (fun K2 k2 => ?_)
  refine wp_seq_k (fun K3 k3 => ?_)
  refine goes (ks := [.det (.bool true), .det (.bool false)]) (T := [0, 1]) (nt := 77) (nh := 1) (H := [((L0.b 0), PC x)]) (A := fun L => [PV x, .int .u8 k, .pointer (some ⟨(L0.b 0), 0, none⟩), undef, .bool false, undef, undef, undef, undef, .bool true, .bool false, undef, undef, undef, undef, undef, undef, undef, undef, undef, undef, undef, undef, undef, undef, undef, undef, undef, undef, undef, undef, undef, undef, undef, undef, undef, undef, undef, undef, undef, undef, undef, undef, undef, undef, undef, undef, undef, undef, undef, undef, undef, undef, undef, undef, undef, undef, undef, undef, undef, undef, undef, undef, undef, undef, undef, undef, undef, undef, undef, undef, undef, undef, undef, undef, undef, undef]) (H' := fun L => [((L0.b 0), PC x)]) (by kernel_rfl) rfl rfl rfl (fun L => by kernel_rfl) (fun L => by kernel_rfl) hp1 ⟨
    ob_call (vs := #[]) (by kernel_rfl) (by kernel_rfl) (fun _ => rfl) rfl rfl (fun _ => by kernel_rfl) (fun w hb _ => hB w (K.stay hg hb)),
    ob_not (b := true) (fun _ => rfl) rfl rfl (fun _ => by kernel_rfl),
    trivial⟩ (fun L1 w2 hp2 => ?_)
  refine k3 _ _ ?_
  refine wp_cond_false (by kernel_rfl) ?_
  refine skips ?_
  refine k2 _ _ ?_
  refine wp_seq_k (fun K4 k4 => ?_)
  refine wp_seq_k (fun K5 k5 => ?_)
  refine goes (ks := [.det (PV x), .det (.bool true), .det (.bool false)]) (T := [0, 1, 3]) (nt := 77) (nh := 1) (H := [((L0.b 0), PC x)]) (A := fun L => [PV x, .int .u8 k, .pointer (some ⟨(L0.b 0), 0, none⟩), undef, .bool false, undef, undef, undef, undef, .bool true, .bool false, PV x, .bool true, .bool false, undef, undef, undef, undef, undef, undef, undef, undef, undef, undef, undef, undef, undef, undef, undef, undef, undef, undef, undef, undef, undef, undef, undef, undef, undef, undef, undef, undef, undef, undef, undef, undef, undef, undef, undef, undef, undef, undef, undef, undef, undef, undef, undef, undef, undef, undef, undef, undef, undef, undef, undef, undef, undef, undef, undef, undef, undef, undef, undef, undef, undef, undef, undef]) (H' := fun L => [((L0.b 0), PC x)]) (by kernel_rfl) rfl rfl rfl (fun L => by kernel_rfl) (fun L => by kernel_rfl) hp2 ⟨
    ob_load (b := (L0.b 0)) (off := 0) (cs := PC x) (by kernel_rfl) (fun _ => rfl) rfl rfl (fun _ => by kernel_rfl) (fun _ _ hs => (seen_at (k := 0) hs rfl).cells) Tryd.underlying26 rfl (sizePC _),
    ob_call (vs := #[PV x]) (by kernel_rfl) (by kernel_rfl) (fun _ => rfl) rfl rfl (fun _ => by kernel_rfl) (fun w _ _ => ref5MayP R _ w),
    ob_not (b := true) (fun _ => rfl) rfl rfl (fun _ => by kernel_rfl),
    trivial⟩ (fun L2 w3 hp3 => ?_)
  refine k5 _ _ ?_
  refine wp_cond_false (by kernel_rfl) ?_
  refine skips ?_
  refine k4 _ _ ?_
  refine wp_seq_k (fun K6 k6 => ?_)
  refine wp_seq_k (fun K7 k7 => ?_)
  refine goes (ks := [.det (.int .u8 k), .det (.int .u8 1), .det (.bool true)]) (T := [0, 1, 3]) (nt := 77) (nh := 1) (H := [((L0.b 0), PC x)]) (A := fun L => [PV x, .int .u8 k, .pointer (some ⟨(L0.b 0), 0, none⟩), undef, .bool false, undef, undef, undef, undef, .bool true, .bool false, PV x, .bool true, .bool false, .int .u8 k, .int .u8 1, .bool true, undef, undef, undef, undef, undef, undef, undef, undef, undef, undef, undef, undef, undef, undef, undef, undef, undef, undef, undef, undef, undef, undef, undef, undef, undef, undef, undef, undef, undef, undef, undef, undef, undef, undef, undef, undef, undef, undef, undef, undef, undef, undef, undef, undef, undef, undef, undef, undef, undef, undef, undef, undef, undef, undef, undef, undef, undef, undef, undef, undef]) (H' := fun L => [((L0.b 0), PC x)]) (by kernel_rfl) rfl rfl rfl (fun L => by kernel_rfl) (fun L => by kernel_rfl) hp3 ⟨
    ob_move (fun _ => rfl) rfl rfl (fun _ => by kernel_rfl),
    ob_bin (u := .int .u8 k) (v := .int .u8 4) (fun _ => rfl) rfl rfl (fun _ => by kernel_rfl) (fun _ => by kernel_rfl) (fun w => guardI _ _ _ _ _ _ _ _ w) (fun w => rem4 _ _ _ kl ku hm w),
    ob_eq (u := .int .u8 1) (v := .int .u8 1) (fun _ => rfl) rfl rfl (fun _ => by kernel_rfl) (fun _ => by kernel_rfl) (fun w => guardI _ _ _ _ _ _ _ _ w) (fun w => (eqlI _ _ _ _ w).trans rfl),
    trivial⟩ (fun L3 w4 hp4 => ?_)
  refine k7 _ _ ?_
  refine wp_cond_true (by kernel_rfl) ?_
  refine goes (ks := [.det (FV 0), .det (.pointer (some ⟨(L0.b 0), 6, none⟩)), .store (.base 0) 6 (FC 0) (PC z)]) (T := [0, 1, 3]) (nt := 77) (nh := 1) (H := [((L0.b 0), PC x)]) (A := fun L => [PV x, .int .u8 k, .pointer (some ⟨(L0.b 0), 0, none⟩), undef, .bool false, undef, undef, undef, undef, .bool true, .bool false, PV x, .bool true, .bool false, .int .u8 k, .int .u8 1, .bool true, FV 0, .pointer (some ⟨(L0.b 0), 6, none⟩), undef, undef, undef, undef, undef, undef, undef, undef, undef, undef, undef, undef, undef, undef, undef, undef, undef, undef, undef, undef, undef, undef, undef, undef, undef, undef, undef, undef, undef, undef, undef, undef, undef, undef, undef, undef, undef, undef, undef, undef, undef, undef, undef, undef, undef, undef, undef, undef, undef, undef, undef, undef, undef, undef, undef, undef, undef, undef]) (H' := fun L => [((L0.b 0), PC z)]) (by kernel_rfl) rfl rfl rfl (fun L => by kernel_rfl) (fun L => by kernel_rfl) hp4 ⟨
    ob_build (qs := #[]) (fun _ => rfl) rfl rfl (fun _ => by kernel_rfl) buildF0,
    ob_index (b := (L0.b 0)) (off := 0) (k := 1) (sz := 6) (n := 2) (fun _ => rfl) rfl rfl (fun _ => by kernel_rfl) (fun _ => by kernel_rfl) Tryd.underlying26 sizeF (by decide) rfl,
    ob_store (old := PC x) (fun _ => rfl) rfl rfl (fun _ => by kernel_rfl) (fun _ => by kernel_rfl) rfl (sizeFC _) (FC_one _) (le_len (FC_len _) (PC_len _) (by decide)) (by subst hz; rfl),
    trivial⟩ (fun L4 w5 hp5 => ?_)
  refine k6 _ _ ?_
  refine wp_seq_k (fun K8 k8 => ?_)
  refine goes (ks := [.det (PV z), .det (PV z), .det (PV (z * z)), .det (.tuple #[PV r, .bool true]), .det (.tuple #[PV r, .bool true]), .det (PV r), .det (.bool true), .alloc (PC 0), .store (.new 7) 0 (PC r) (PC r), .det (.bool true)]) (T := [0, 0, 3, 7, 15, 31, 31, 0, 191, 511]) (nt := 77) (nh := 1) (H := [((L0.b 0), PC z)]) (A := fun L => [PV x, .int .u8 k, .pointer (some ⟨(L0.b 0), 0, none⟩), undef, .bool false, .pointer (some ⟨L.b 7, 0, none⟩), .bool true, undef, undef, .bool true, .bool false, PV x, .bool true, .bool false, .int .u8 k, .int .u8 1, .bool true, FV 0, .pointer (some ⟨(L0.b 0), 6, none⟩), undef, undef, undef, undef, undef, .tuple #[PV r, .bool true], PV z, PV z, PV (z * z), .tuple #[PV r, .bool true], PV r, .bool true, undef, undef, undef, undef, undef, undef, undef, undef, undef, undef, undef, undef, undef, undef, undef, undef, undef, undef, undef, undef, undef, undef, undef, undef, undef, undef, undef, undef, undef, undef, undef, undef, undef, undef, undef, undef, undef, undef, undef, undef, undef, undef, undef, undef, undef, undef]) (H' := fun L => [((L0.b 0), PC z), (L.b 7, PC r)]) (by kernel_rfl) rfl rfl rfl (fun L => by kernel_rfl) (fun L => by kernel_rfl) hp5 ⟨
    ob_load (b := (L0.b 0)) (off := 0) (cs := PC z) (by kernel_rfl) (fun _ => rfl) rfl rfl (fun _ => by kernel_rfl) (fun _ _ hs => (seen_at (k := 0) hs rfl).cells) Tryd.underlying26 rfl (sizePC _),
    ob_load (b := (L0.b 0)) (off := 0) (cs := PC z) (by kernel_rfl) (fun _ => rfl) rfl rfl (fun _ => by kernel_rfl) (fun _ _ hs => (seen_at (k := 0) hs rfl).cells) Tryd.underlying26 rfl (sizePC _),
    ob_call (vs := #[PV z, PV z]) (by kernel_rfl) (by kernel_rfl) (fun _ => rfl) rfl rfl (fun _ => by kernel_rfl) (fun w hb _ => fp2Mul K _ _ w (K.stay hg hb)),
    ob_call (vs := #[PV (z * z)]) (by kernel_rfl) (by kernel_rfl) (fun _ => rfl) rfl rfl (fun _ => by kernel_rfl) (fun w hb _ => by have e := fp2Sqrt K (z * z) w (K.stay hg hb) hH; rw [hr, hri] at e; exact e),
    ob_move (fun _ => rfl) rfl rfl (fun _ => by kernel_rfl),
    ob_extract (vs := #[PV r, .bool true]) (fun _ => rfl) rfl rfl (fun _ => by kernel_rfl) rfl,
    ob_extract (vs := #[PV r, .bool true]) (fun _ => rfl) rfl rfl (fun _ => by kernel_rfl) rfl,
    ob_alloc (v := PV 0) (fun _ => rfl) rfl rfl zeroP rfl,
    ob_store (old := PC 0) (fun _ => rfl) rfl rfl (fun _ => by kernel_rfl) (fun _ => by kernel_rfl) rfl (sizePC _) (PC_one _) (le_len (PC_len _) (PC_len _) (by decide)) (splice_all ((PC_len _).trans (PC_len _).symm)).symm,
    ob_assign (fun _ => rfl) rfl rfl (fun _ => by kernel_rfl),
    trivial⟩ (fun L5 w6 hp6 => ?_)
  refine k8 _ _ ?_
  refine wp_seq_k (fun K9 k9 => ?_)
  refine goes (ks := [.det (PV z), .det (.tuple #[PV s, .bool true]), .det (.tuple #[PV s, .bool true]), .det (PV s), .det (.bool true), .alloc (PC 0), .store (.new 5) 0 (PC s) (PC s), .det (.bool true)]) (T := [0, 1, 3, 7, 7, 0, 47, 127]) (nt := 77) (nh := 2) (H := [((L0.b 0), PC z), ((L5.b 7), PC r)]) (A := fun L => [PV x, .int .u8 k, .pointer (some ⟨(L0.b 0), 0, none⟩), undef, .bool false, .pointer (some ⟨(L5.b 7), 0, none⟩), .bool true, .pointer (some ⟨L.b 5, 0, none⟩), .bool true, .bool true, .bool false, PV x, .bool true, .bool false, .int .u8 k, .int .u8 1, .bool true, FV 0, .pointer (some ⟨(L0.b 0), 6, none⟩), undef, undef, undef, undef, undef, .tuple #[PV r, .bool true], PV z, PV z, PV (z * z), .tuple #[PV r, .bool true], PV r, .bool true, .tuple #[PV s, .bool true], PV z, .tuple #[PV s, .bool true], PV s, .bool true, undef, undef, undef, undef, undef, undef, undef, undef, undef, undef, undef, undef, undef, undef, undef, undef, undef, undef, undef, undef, undef, undef, undef, undef, undef, undef, undef, undef, undef, undef, undef, undef, undef, undef, undef, undef, undef, undef, undef, undef, undef]) (H' := fun L => [((L0.b 0), PC z), ((L5.b 7), PC r), (L.b 5, PC s)]) (by kernel_rfl) rfl rfl rfl (fun L => by kernel_rfl) (fun L => by kernel_rfl) hp6 ⟨
    ob_load (b := (L0.b 0)) (off := 0) (cs := PC z) (by kernel_rfl) (fun _ => rfl) rfl rfl (fun _ => by kernel_rfl) (fun _ _ hs => (seen_at (k := 0) hs rfl).cells) Tryd.underlying26 rfl (sizePC _),
    ob_call (vs := #[PV z]) (by kernel_rfl) (by kernel_rfl) (fun _ => rfl) rfl rfl (fun _ => by kernel_rfl) (fun w hb _ => by have e := fp2Sqrt K z w (K.stay hg hb) hH; rw [hs, hsi] at e; exact e),
    ob_move (fun _ => rfl) rfl rfl (fun _ => by kernel_rfl),
    ob_extract (vs := #[PV s, .bool true]) (fun _ => rfl) rfl rfl (fun _ => by kernel_rfl) rfl,
    ob_extract (vs := #[PV s, .bool true]) (fun _ => rfl) rfl rfl (fun _ => by kernel_rfl) rfl,
    ob_alloc (v := PV 0) (fun _ => rfl) rfl rfl zeroP rfl,
    ob_store (old := PC 0) (fun _ => rfl) rfl rfl (fun _ => by kernel_rfl) (fun _ => by kernel_rfl) rfl (sizePC _) (PC_one _) (le_len (PC_len _) (PC_len _) (by decide)) (splice_all ((PC_len _).trans (PC_len _).symm)).symm,
    ob_assign (fun _ => rfl) rfl rfl (fun _ => by kernel_rfl),
    trivial⟩ (fun L6 w7 hp7 => ?_)
  refine k9 _ _ ?_
  refine wp_seq_k (fun K10 k10 => ?_)
  refine draws (by kernel_rfl) (ks := [.det (.bool true), .det (.bool true), .det (PV r), .det (PV z), .det (.bool true), .det (.bool true), .det undef, .det undef, .det undef, .det undef, .det (.bool true), .det (.bool true), .det (.bool true), .det (PV r), .det (.bool false), .det (.bool true), .det (.bool true), .det (.bool true), .det (.bool true), .det (.bool false), .det (.bool false), .det (PV s), .det (PV s), .det (PV z), .det (PV z), .det (.bool true), .det (.bool true), .det (.bool true), .det (.bool true), .det (PV z), .det (PV 0), .det (.bool true), .det (.bool true), .det undef, .det undef, .det undef, .det undef, .det undef, .det undef, .det (.bool true), .det (.bool true), .det (.bool true)]) (T := [0, 1, 3, 3, 15, 31, 63, 63, 191, 511, 1023, 2047, 4095, 8191, 16383, 32767, 65535, 131071, 262143, 524287, 1048575, 2097151, 2097151, 8388607, 2097151, 33554431, 67108863, 134217727, 268435455, 536870911, 536870911, 2147483647, 4294967295, 8589934591, 17179869183, 8589934591, 68719476735, 137438953471, 274877906943, 549755813887, 1099511627775, 2199023255551]) (nt := 77) (nh := 3) (H := [((L0.b 0), PC z), ((L5.b 7), PC r), ((L6.b 5), PC s)]) (A := fun L => [PV x, .int .u8 k, .pointer (some ⟨(L0.b 0), 0, none⟩), undef, .bool true, .pointer (some ⟨(L5.b 7), 0, none⟩), .bool true, .pointer (some ⟨(L6.b 5), 0, none⟩), .bool true, .bool true, .bool false, PV x, .bool true, .bool false, .int .u8 k, .int .u8 1, .bool true, FV 0, .pointer (some ⟨(L0.b 0), 6, none⟩), undef, undef, undef, undef, undef, .tuple #[PV r, .bool true], PV z, PV z, PV (z * z), .tuple #[PV r, .bool true], PV r, .bool true, .tuple #[PV s, .bool true], PV z, .tuple #[PV s, .bool true], PV s, .bool true, .bool true, .bool true, PV r, PV z, .bool true, .bool true, undef, undef, undef, undef, .bool true, .bool true, .bool true, PV r, .bool false, .bool true, .bool true, .bool true, .bool true, .bool false, .bool false, PV s, PV s, PV z, PV z, .bool true, .bool true, .bool true, .bool true, PV z, PV 0, .bool true, .bool true, undef, undef, undef, undef, undef, undef, .bool true, .bool true]) (H' := fun L => [((L0.b 0), PC z), ((L5.b 7), PC r), ((L6.b 5), PC s)]) (by kernel_rfl) rfl rfl rfl (fun L => by kernel_rfl) (fun L => by kernel_rfl) hp7 ⟨
    ob_move (fun _ => rfl) rfl rfl (fun _ => by kernel_rfl),
    ob_move (fun _ => rfl) rfl rfl (fun _ => by kernel_rfl),
    ob_load (b := (L5.b 7)) (off := 0) (cs := PC r) (by kernel_rfl) (fun _ => by kernel_rfl) rfl rfl (fun _ => by kernel_rfl) (fun _ _ hs => (seen_at (k := 1) hs rfl).cells) Tryd.underlying26 rfl (sizePC _),
    ob_load (b := (L0.b 0)) (off := 0) (cs := PC z) (by kernel_rfl) (fun _ => by kernel_rfl) rfl rfl (fun _ => by kernel_rfl) (fun _ _ hs => (seen_at (k := 0) hs rfl).cells) Tryd.underlying26 rfl (sizePC _),
    ob_eq (u := PV r) (v := PV z) (fun _ => by kernel_rfl) rfl rfl (fun _ => by kernel_rfl) (fun _ => by kernel_rfl) (fun w => guardP _ _ _ _ _ w) (fun w => (eqlP _ _ w).trans (by rw [decide_eq_true (hrz)]; try rfl)),
    ob_move (fun _ => by kernel_rfl) rfl rfl (fun _ => by kernel_rfl),
    ob_skip (fun _ => by kernel_rfl) rfl,
    ob_skip (fun _ => by kernel_rfl) rfl,
    ob_skip (fun _ => by kernel_rfl) rfl,
    ob_skip (fun _ => by kernel_rfl) rfl,
    ob_pickT (fun _ => by kernel_rfl) rfl rfl (fun _ => by kernel_rfl) (fun _ => by kernel_rfl),
    ob_pickT (fun _ => rfl) rfl rfl (fun _ => by kernel_rfl) (fun _ => by kernel_rfl),
    ob_move (fun _ => rfl) rfl rfl (fun _ => by kernel_rfl),
    ob_load (b := (L5.b 7)) (off := 0) (cs := PC r) (by kernel_rfl) (fun _ => by kernel_rfl) rfl rfl (fun _ => by kernel_rfl) (fun _ _ hs => (seen_at (k := 1) hs rfl).cells) Tryd.underlying26 rfl (sizePC _),
    ob_call (vs := #[PV r]) (by kernel_rfl) (by kernel_rfl) (fun _ => by kernel_rfl) rfl rfl (fun _ => by kernel_rfl) (fun w hb _ => by have e := fp2Great K r w (K.stay hg hb); rw [hgr] at e; exact e),
    ob_not (b := false) (fun _ => by kernel_rfl) rfl rfl (fun _ => by kernel_rfl),
    ob_pickT (fun _ => rfl) rfl rfl (fun _ => by kernel_rfl) (fun _ => by kernel_rfl),
    ob_move (fun _ => rfl) rfl rfl (fun _ => by kernel_rfl),
    ob_move (fun _ => by kernel_rfl) rfl rfl (fun _ => by kernel_rfl),
    ob_not (b := true) (fun _ => by kernel_rfl) rfl rfl (fun _ => by kernel_rfl),
    ob_move (fun _ => by kernel_rfl) rfl rfl (fun _ => by kernel_rfl),
    ob_load (b := (L6.b 5)) (off := 0) (cs := PC s) (by kernel_rfl) (fun _ => by kernel_rfl) rfl rfl (fun _ => by kernel_rfl) (fun _ _ hs => (seen_at (k := 2) hs rfl).cells) Tryd.underlying26 rfl (sizePC _),
    ob_load (b := (L6.b 5)) (off := 0) (cs := PC s) (by kernel_rfl) (fun _ => by kernel_rfl) rfl rfl (fun _ => by kernel_rfl) (fun _ _ hs => (seen_at (k := 2) hs rfl).cells) Tryd.underlying26 rfl (sizePC _),
    ob_call (vs := #[PV s, PV s]) (by kernel_rfl) (by kernel_rfl) (fun _ => by kernel_rfl) rfl rfl (fun _ => by kernel_rfl) (fun w hb _ => by have e := fp2Mul K s s w (K.stay hg hb); rw [hss] at e; exact e),
    ob_load (b := (L0.b 0)) (off := 0) (cs := PC z) (by kernel_rfl) (fun _ => by kernel_rfl) rfl rfl (fun _ => by kernel_rfl) (fun _ _ hs => (seen_at (k := 0) hs rfl).cells) Tryd.underlying26 rfl (sizePC _),
    ob_eq (u := PV z) (v := PV z) (fun _ => by kernel_rfl) rfl rfl (fun _ => by kernel_rfl) (fun _ => by kernel_rfl) (fun w => guardP _ _ _ _ _ w) (fun w => (eqlP _ _ w).trans (by rw [decide_eq_true (rfl)]; try rfl)),
    ob_pickF (fun _ => by kernel_rfl) rfl rfl (fun _ => by kernel_rfl) (fun _ => by kernel_rfl),
    ob_pickT (fun _ => rfl) rfl rfl (fun _ => by kernel_rfl) (fun _ => by kernel_rfl),
    ob_move (fun _ => rfl) rfl rfl (fun _ => by kernel_rfl),
    ob_load (b := (L0.b 0)) (off := 0) (cs := PC z) (by kernel_rfl) (fun _ => by kernel_rfl) rfl rfl (fun _ => by kernel_rfl) (fun _ _ hs => (seen_at (k := 0) hs rfl).cells) Tryd.underlying26 rfl (sizePC _),
    ob_build (qs := #[]) (fun _ => by kernel_rfl) rfl rfl (fun _ => by kernel_rfl) buildP0,
    ob_eq (u := PV z) (v := PV 0) (fun _ => by kernel_rfl) rfl rfl (fun _ => by kernel_rfl) (fun _ => by kernel_rfl) (fun w => guardP _ _ _ _ _ w) (fun w => (eqlP _ _ w).trans (by rw [decide_eq_true (h0)]; try rfl)),
    ob_move (fun _ => by kernel_rfl) rfl rfl (fun _ => by kernel_rfl),
    ob_skip (fun _ => by kernel_rfl) rfl,
    ob_skip (fun _ => by kernel_rfl) rfl,
    ob_skip (fun _ => by kernel_rfl) rfl,
    ob_skip (fun _ => by kernel_rfl) rfl,
    ob_skip (fun _ => by kernel_rfl) rfl,
    ob_skip (fun _ => by kernel_rfl) rfl,
    ob_pickT (fun _ => by kernel_rfl) rfl rfl (fun _ => by kernel_rfl) (fun _ => by kernel_rfl),
    ob_pickT (fun _ => rfl) rfl rfl (fun _ => by kernel_rfl) (fun _ => by kernel_rfl),
    ob_assign (fun _ => rfl) rfl rfl (fun _ => by kernel_rfl),
    trivial⟩ (fun L7 w8 hp8 => ?_)
  refine k10 _ _ ?_
  refine wp_ret ?_
  exact bodyPost_ret (v := .bool true) (res_t rfl (by kernel_rfl) _) rfl ⟨rfl, hp8.bel⟩
set_option maxHeartbeats 4000000 in
theorem sqsb1 {G : World → Prop} (K : FpK G) (R : RefK) (x z y r s : F2) (k : Int) (w : World) (hg : G w) (hH : ∀ w, G w → w.rangeAt 2 0 (FC hf)) (hB : ∀ w, G w → Calls Tryd.prog 7 #[] w (Ret (.bool true) w)) (kl : 0 ≤ k) (ku : k < 256) (hm : k % 4 = 1) (hz : (⟨x.c0, 0⟩ : F2) = z) (hr : (z * z).sq2 = r) (hri : (z * z).is2 = true) (hs : z.sq2 = s) (hsi : z.is2 = true) (hss : s * s = z) (hy : -z = y) (hgr : r.great = false) (hgz : z.great = false) (hgy : y.great = true) (h0 : z ≠ 0) (hrz : r = z) : Calls Tryd.prog 6 #[PV x, .int .u8 k] w (Ret (.bool true) w) := by
  have hp0 := Heap.start w
  go_enter Tryd.func6, Tryd.ntmps6
  refine wp_seq_k (fun K1 k1 => ?_)
  refine goes (ks := [.alloc (PC x), .det (.bool false)]) (T := [0, 0]) (nt := 77) (nh := 0) (H := []) (A := fun L => [PV x, .int .u8 k, .pointer (some ⟨L.b 0, 0, none⟩), undef, .bool false, undef, undef, undef, undef, undef, undef, undef, undef, undef, undef, undef, undef, undef, undef, undef, undef, undef, undef, undef, undef, undef, undef, undef, undef, undef, undef, undef, undef, undef, undef, undef, undef, undef, undef, undef, undef, undef, undef, undef, undef, undef, undef, undef, undef, undef, undef, undef, undef, undef, undef, undef, undef, undef, undef, undef, undef, undef, undef, undef, undef, undef, undef, undef, undef, undef, undef, undef, undef, undef, undef, undef, undef]) (H' := fun L => [(L.b 0, PC x)]) (by kernel_rfl) rfl rfl rfl (fun L => by kernel_rfl) (fun L => by kernel_rfl) hp0 ⟨
    ob_box (v := PV x) (fun _ => rfl) rfl rfl (fun _ => by kernel_rfl) rfl,
    ob_assign (fun _ => rfl) rfl rfl (fun _ => by kernel_rfl),
    trivial⟩ (fun L0 w1 hp1 => ?_)
  refine k1 _ _ ?_
  refine wp_seq_k (fun K2 k2 => ?_)
  refine wp_seq_k (fun K3 k3 => ?_)
  refine goes (ks := [.det (.bool true), .det (.bool false)]) (T := [0, 1]) (nt := 77) (nh := 1) (H := [((L0.b 0), PC x)]) (A := fun L => [PV x, .int .u8 k, .pointer (some ⟨(L0.b 0), 0, none⟩), undef, .bool false, undef, undef, undef, undef, .bool true, .bool false, undef, undef, undef, undef, undef, undef, undef, undef, undef, undef, undef, undef, undef, undef, undef, undef, undef, undef, undef, undef, undef, undef, undef, undef, undef, undef, undef, undef, undef, undef, undef, undef, undef, undef, undef, undef, undef, undef, undef, undef, undef, undef, undef, undef, undef, undef, undef, undef, undef, undef, undef, undef, undef, undef, undef, undef, undef, undef, undef, undef, undef, undef, undef, undef, undef, undef]) (H' := fun L => [((L0.b 0), PC x)]) (by kernel_rfl) rfl rfl rfl (fun L => by kernel_rfl) (fun L => by kernel_rfl) hp1 ⟨
    ob_call (vs := #[]) (by kernel_rfl) (by kernel_rfl) (fun _ => rfl) rfl rfl (fun _ => by kernel_rfl) (fun w hb _ => hB w (K.stay hg hb)),
    ob_not (b := true) (fun _ => rfl) rfl rfl (fun _ => by kernel_rfl),
    trivial⟩ (fun L1 w2 hp2 => ?_)
  refine k3 _ _ ?_
  refine wp_cond_false (by kernel_rfl) ?_
  refine skips ?_
  refine k2 _ _ ?_
  refine wp_seq_k (fun K4 k4 => ?_)
  refine wp_seq_k (fun K5 k5 => ?_)
  refine goes (ks := [.det (PV x), .det (.bool true), .det (.bool false)]) (T := [0, 1, 3]) (nt := 77) (nh := 1) (H := [((L0.b 0), PC x)]) (A := fun L => [PV x, .int .u8 k, .pointer (some ⟨(L0.b 0), 0, none⟩), undef, .bool false, undef, undef, undef, undef, .bool true, .bool false, PV x, .bool true, .bool false, undef, undef, undef, undef, undef, undef, undef, undef, undef, undef, undef, undef, undef, undef, undef, undef, undef, undef, undef, undef, undef, undef, undef, undef, undef, undef, undef, undef, undef, undef, undef, undef, undef, undef, undef, undef, undef, undef, undef, undef, undef, undef, undef, undef, undef, undef, undef, undef, undef, undef, undef, undef, undef, undef, undef, undef, undef, undef, undef, undef, undef, undef, undef]) (H' := fun L => [((L0.b 0), PC x)]) (by kernel_rfl) rfl rfl rfl (fun L => by kernel_rfl) (fun L => by kernel_rfl) hp2 ⟨
    ob_load (b := (L0.b 0)) (off := 0) (cs := PC x) (by kernel_rfl) (fun _ => rfl) rfl rfl (fun _ => by kernel_rfl) (fun _ _ hs => (seen_at (k := 0) hs rfl).cells) Tryd.underlying26 rfl (sizePC _),
    ob_call (vs := #[PV x]) (by kernel_rfl) (by kernel_rfl) (fun _ => rfl) rfl rfl (fun _ => by kernel_rfl) (fun w _ _ => ref5MayP R _ w),
    ob_not (b := true) (fun _ => rfl) rfl rfl (fun _ => by kernel_rfl),
    trivial⟩ (fun L2 w3 hp3 => ?_)
  refine k5 _ _ ?_
  refine wp_cond_false (by kernel_rfl) ?_
  refine skips ?_
  refine k4 _ _ ?_
  refine wp_seq_k (fun K6 k6 => ?_)
  refine wp_seq_k (fun K7 k7 => ?_)
  refine goes (ks := [.det (.int .u8 k), .det (.int .u8 1), .det (.bool true)]) (T := [0, 1, 3]) (nt := 77) (nh := 1) (H := [((L0.b 0), PC x)]) (A := fun L => [PV x, .int .u8 k, .pointer (some ⟨(L0.b 0), 0, none⟩), undef, .bool false, undef, undef, undef, undef, .bool true, .bool false, PV x, .bool true, .bool false, .int .u8 k, .int .u8 1, .bool true, undef, undef, undef, undef, undef, undef, undef, undef, undef, undef, undef, undef, undef, undef, undef, undef, undef, undef, undef, undef, undef, undef, undef, undef, undef, undef, undef, undef, undef, undef, undef, undef, undef, undef, undef, undef, undef, undef, undef, undef, undef, undef, undef, undef, undef, undef, undef, undef, undef, undef, undef, undef, undef, undef, undef, undef, undef, undef, undef, undef]) (H' := fun L => [((L0.b 0), PC x)]) (by kernel_rfl) rfl rfl rfl (fun L => by kernel_rfl) (fun L => by kernel_rfl) hp3 ⟨
    ob_move (fun _ => rfl) rfl rfl (fun _ => by kernel_rfl),
    ob_bin (u := .int .u8 k) (v := .int .u8 4) (fun _ => rfl) rfl rfl (fun _ => by kernel_rfl) (fun _ => by kernel_rfl) (fun w => guardI _ _ _ _ _ _ _ _ w) (fun w => rem4 _ _ _ kl ku hm w),
    ob_eq (u := .int .u8 1) (v := .int .u8 1) (fun _ => rfl) rfl rfl (fun _ => by kernel_rfl) (fun _ => by kernel_rfl) (fun w => guardI _ _ _ _ _ _ _ _ w) (fun w => (eqlI _ _ _ _ w).trans rfl),
    trivial⟩ (fun L3 w4 hp4 => ?_)
  refine k7 _ _ ?_
  refine wp_cond_true (by kernel_rfl) ?_
  refine goes (ks := [.det (FV 0), .det (.pointer (some ⟨(L0.b 0), 6, none⟩)), .store (.base 0) 6 (FC 0) (PC z)]) (T := [0, 1, 3]) (nt := 77) (nh := 1) (H := [((L0.b 0), PC x)]) (A := fun L => [PV x, .int .u8 k, .pointer (some ⟨(L0.b 0), 0, none⟩), undef, .bool false, undef, undef, undef, undef, .bool true, .bool false, PV x, .bool true, .bool false, .int .u8 k, .int .u8 1, .bool true, FV 0, .pointer (some ⟨(L0.b 0), 6, none⟩), undef, undef, undef, undef, undef, undef, undef, undef, undef, undef, undef, undef, undef, undef, undef, undef, undef, undef, undef, undef, undef, undef, undef, undef, undef, undef, undef, undef, undef, undef, undef, undef, undef, undef, undef, undef, undef, undef, undef, undef, undef, undef, undef, undef, undef, undef, undef, undef, undef, undef, undef, undef, undef, undef, undef, undef, undef, undef]) (H' := fun L => [((L0.b 0), PC z)]) (by kernel_rfl) rfl rfl rfl (fun L => by kernel_rfl) (fun L => by kernel_rfl) hp4 ⟨
    ob_build (qs := #[]) (fun _ => rfl) rfl rfl (fun _ => by kernel_rfl) buildF0,
    ob_index (b := (L0.b 0)) (off := 0) (k := 1) (sz := 6) (n := 2) (fun _ => rfl) rfl rfl (fun _ => by kernel_rfl) (fun _ => by kernel_rfl) Tryd.underlying26 sizeF (by decide) rfl,
    ob_store (old := PC x) (fun _ => rfl) rfl rfl (fun _ => by kernel_rfl) (fun _ => by kernel_rfl) rfl (sizeFC _) (FC_one _) (le_len (FC_len _) (PC_len _) (by decide)) (by subst hz; rfl),
    trivial⟩ (fun L4 w5 hp5 => ?_)
  refine k6 _ _ ?_
  refine wp_seq_k (fun K8 k8 => ?_)
  refine goes (ks := [.det (PV z), .det (PV z), .det (PV (z * z)), .det (.tuple #[PV r, .bool true]), .det (.tuple #[PV r, .bool true]), .det (PV r), .det (.bool true), .alloc (PC 0), .store (.new 7) 0 (PC r) (PC r), .det (.bool true)]) (T := [0, 0, 3, 7, 15, 31, 31, 0, 191, 511]) (nt := 77) (nh := 1) (H := [((L0.b 0), PC z)]) (A := fun L => [PV x, .int .u8 k, .pointer (some ⟨(L0.b 0), 0, none⟩), undef, .bool false, .pointer (some ⟨L.b 7, 0, none⟩), .bool true, undef, undef, .bool true, .bool false, PV x, .bool true, .bool false, .int .u8 k, .int .u8 1, .bool true, FV 0, .pointer (some ⟨(L0.b 0), 6, none⟩), undef, undef, undef, undef, undef, .tuple #[PV r, .bool true], PV z, PV z, PV (z * z), .tuple #[PV r, .bool true], PV r, .bool true, undef, undef, undef, undef, undef, undef, undef, undef, undef, undef, undef, undef, undef, undef, undef, undef, undef, undef, undef, undef, undef, undef, undef, undef, undef, undef, undef, undef, undef, undef, undef, undef, undef, undef, undef, undef, undef, undef, undef, undef, undef, undef, undef, undef, undef, undef]) (H' := fun L => [((L0.b 0), PC z), (L.b 7, PC r)]) (by kernel_rfl) rfl rfl rfl (fun L => by kernel_rfl) (fun L => by kernel_rfl) hp5 ⟨
    ob_load (b := (L0.b 0)) (off := 0) (cs := PC z) (by kernel_rfl) (fun _ => rfl) rfl rfl (fun _ => by kernel_rfl) (fun _ _ hs => (seen_at (k := 0) hs rfl).cells) Tryd.underlying26 rfl (sizePC _),
    ob_load (b := (L0.b 0)) (off := 0) (cs := PC z) (by kernel_rfl) (fun _ => rfl) rfl rfl (fun _ => by kernel_rfl) (fun _ _ hs => (seen_at (k := 0) hs rfl).cells) Tryd.underlying26 rfl (sizePC _),
    ob_call (vs := #[PV z, PV z]) (by kernel_rfl) (by kernel_rfl) (fun _ => rfl) rfl rfl (fun _ => by kernel_rfl) (fun w hb _ => fp2Mul K _ _ w (K.stay hg hb)),
    ob_call (vs := #[PV (z * z)]) (by kernel_rfl) (by kernel_rfl) (fun _ => rfl) rfl rfl (fun _ => by kernel_rfl) (fun w hb _ => by have e := fp2Sqrt K (z * z) w (K.stay hg hb) hH; rw [hr, hri] at e; exact e),
    ob_move (fun _ => rfl) rfl rfl (fun _ => by kernel_rfl),
    ob_extract (vs := #[PV r, .bool true]) (fun _ => rfl) rfl rfl (fun _ => by kernel_rfl) rfl,
    ob_extract (vs := #[PV r, .bool true]) (fun _ => rfl) rfl rfl (fun _ => by kernel_rfl) rfl,
    ob_alloc (v := PV 0) (fun _ => rfl) rfl rfl zeroP rfl,
    ob_store (old := PC 0) (fun _ => rfl) rfl rfl (fun _ => by kernel_rfl) (fun _ => by kernel_rfl) rfl (sizePC _) (PC_one _) (le_len (PC_len _) (PC_len _) (by decide)) (splice_all ((PC_len _).trans (PC_len _).symm)).symm,
    ob_assign (fun _ => rfl) rfl rfl (fun _ => by kernel_rfl),
    trivial⟩ (fun L5 w6 hp6 => ?_)
  refine k8 _ _ ?_
  refine wp_seq_k (fun K9 k9 => ?_)
  refine goes (ks := [.det (PV z), .det (.tuple #[PV s, .bool true]), .det (.tuple #[PV s, .bool true]), .det (PV s), .det (.bool true), .alloc (PC 0), .store (.new 5) 0 (PC s) (PC s), .det (.bool true)]) (T := [0, 1, 3, 7, 7, 0, 47, 127]) (nt := 77) (nh := 2) (H := [((L0.b 0), PC z), ((L5.b 7), PC r)]) (A := fun L => [PV x, .int .u8 k, .pointer (some ⟨(L0.b 0), 0, none⟩), undef, .bool false, .pointer (some ⟨(L5.b 7), 0, none⟩), .bool true, .pointer (some ⟨L.b 5, 0, none⟩), .bool true, .bool true, .bool false, PV x, .bool true, .bool false, .int .u8 k, .int .u8 1, .bool true, FV 0, .pointer (some ⟨(L0.b 0), 6, none⟩), undef, undef, undef, undef, undef, .tuple #[PV r, .bool true], PV z, PV z, PV (z * z), .tuple #[PV r, .bool true], PV r, .bool true, .tuple #[PV s, .bool true], PV z, .tuple #[PV s, .bool true], PV s, .bool true, undef, undef, undef, undef, undef, undef, undef, undef, undef, undef, undef, undef, undef, undef, undef, undef, undef, undef, undef, undef, undef, undef, undef, undef, undef, undef, undef, undef, undef, undef, undef, undef, undef, undef, undef, undef, undef, undef, undef, undef, undef]) (H' := fun L => [((L0.b 0), PC z), ((L5.b 7), PC r), (L.b 5, PC s)]) (by kernel_rfl) rfl rfl rfl (fun L => by kernel_rfl) (fun L => by kernel_rfl) hp6 ⟨
    ob_load (b := (L0.b 0)) (off := 0) (cs := PC z) (by kernel_rfl) (fun _ => rfl) rfl rfl (fun _ => by kernel_rfl) (fun _ _ hs => (seen_at (k := 0) hs rfl).cells) Tryd.underlying26 rfl (sizePC _),
    ob_call (vs := #[PV z]) (by kernel_rfl) (by kernel_rfl) (fun _ => rfl) rfl rfl (fun _ => by kernel_rfl) (fun w hb _ => by have e := fp2Sqrt K z w (K.stay hg hb) hH; rw [hs, hsi] at e; exact e),
    ob_move (fun _ => rfl) rfl rfl (fun _ => by kernel_rfl),
    ob_extract (vs := #[PV s, .bool true]) (fun _ => rfl) rfl rfl (fun _ => by kernel_rfl) rfl,
    ob_extract (vs := #[PV s, .bool true]) (fun _ => rfl) rfl rfl (fun _ => by kernel_rfl) rfl,
    ob_alloc (v := PV 0) (fun _ => rfl) rfl rfl zeroP rfl,
    ob_store (old := PC 0) (fun _ => rfl) rfl rfl (fun _ => by kernel_rfl) (fun _ => by kernel_rfl) rfl (sizePC _) (PC_one _) (le_len (PC_len _) (PC_len _) (by decide)) (splice_all ((PC_len _).trans (PC_len _).symm)).symm,
    ob_assign (fun _ => rfl) rfl rfl (fun _ => by kernel_rfl),
    trivial⟩ (fun L6 w7 hp7 => ?_)
  refine k9 _ _ ?_
  refine wp_seq_k (fun K10 k10 => ?_)
  refine draws (by kernel_rfl) (ks := [.det (.bool true), .det (.bool true), .det (PV r), .det (PV z), .det (.bool true), .det (.bool true), .det undef, .det undef, .det undef, .det undef, .det (.bool true), .det (.bool true), .det (.bool true), .det (PV r), .det (.bool false), .det (.bool true), .det (.bool true), .det (.bool true), .det (.bool true), .det (.bool false), .det (.bool false), .det (PV s), .det (PV s), .det (PV z), .det (PV z), .det (.bool true), .det (.bool true), .det (.bool true), .det (.bool true), .det (PV z), .det (PV 0), .det (.bool false), .det (.bool false), .det (PV z), .det (.bool false), .det (PV z), .det (PV y), .det (.bool true), .det (.bool true), .det (.bool true), .det (.bool true), .det (.bool true)]) (T := [0, 1, 3, 3, 15, 31, 63, 63, 191, 511, 1023, 2047, 4095, 8191, 16383, 32767, 65535, 131071, 262143, 524287, 1048575, 2097151, 2097151, 8388607, 2097151, 33554431, 67108863, 134217727, 268435455, 536870911, 536870911, 2147483647, 4294967295, 8589934591, 17179869183, 8589934591, 68719476735, 137438953471, 274877906943, 549755813887, 1099511627775, 2199023255551]) (nt := 77) (nh := 3) (H := [((L0.b 0), PC z), ((L5.b 7), PC r), ((L6.b 5), PC s)]) (A := fun L => [PV x, .int .u8 k, .pointer (some ⟨(L0.b 0), 0, none⟩), undef, .bool true, .pointer (some ⟨(L5.b 7), 0, none⟩), .bool true, .pointer (some ⟨(L6.b 5), 0, none⟩), .bool true, .bool true, .bool false, PV x, .bool true, .bool false, .int .u8 k, .int .u8 1, .bool true, FV 0, .pointer (some ⟨(L0.b 0), 6, none⟩), undef, undef, undef, undef, undef, .tuple #[PV r, .bool true], PV z, PV z, PV (z * z), .tuple #[PV r, .bool true], PV r, .bool true, .tuple #[PV s, .bool true], PV z, .tuple #[PV s, .bool true], PV s, .bool true, .bool true, .bool true, PV r, PV z, .bool true, .bool true, undef, undef, undef, undef, .bool true, .bool true, .bool true, PV r, .bool false, .bool true, .bool true, .bool true, .bool true, .bool false, .bool false, PV s, PV s, PV z, PV z, .bool true, .bool true, .bool true, .bool true, PV z, PV 0, .bool false, .bool false, PV z, .bool false, PV z, PV y, .bool true, .bool true, .bool true, .bool true]) (H' := fun L => [((L0.b 0), PC z), ((L5.b 7), PC r), ((L6.b 5), PC s)]) (by kernel_rfl) rfl rfl rfl (fun L => by kernel_rfl) (fun L => by kernel_rfl) hp7 ⟨
    ob_move (fun _ => rfl) rfl rfl (fun _ => by kernel_rfl),
    ob_move (fun _ => rfl) rfl rfl (fun _ => by kernel_rfl),
    ob_load (b := (L5.b 7)) (off := 0) (cs := PC r) (by kernel_rfl) (fun _ => by kernel_rfl) rfl rfl (fun _ => by kernel_rfl) (fun _ _ hs => (seen_at (k := 1) hs rfl).cells) Tryd.underlying26 rfl (sizePC _),
    ob_load (b := (L0.b 0)) (off := 0) (cs := PC z) (by kernel_rfl) (fun _ => by kernel_rfl) rfl rfl (fun _ => by kernel_rfl) (fun _ _ hs => (seen_at (k := 0) hs rfl).cells) Tryd.underlying26 rfl (sizePC _),
    ob_eq (u := PV r) (v := PV z) (fun _ => by kernel_rfl) rfl rfl (fun _ => by kernel_rfl) (fun _ => by kernel_rfl) (fun w => guardP _ _ _ _ _ w) (fun w => (eqlP _ _ w).trans (by rw [decide_eq_true (hrz)]; try rfl)),
    ob_move (fun _ => by kernel_rfl) rfl rfl (fun _ => by kernel_rfl),
    ob_skip (fun _ => by kernel_rfl) rfl,
    ob_skip (fun _ => by kernel_rfl) rfl,
    ob_skip (fun _ => by kernel_rfl) rfl,
    ob_skip (fun _ => by kernel_rfl) rfl,
    ob_pickT (fun _ => by kernel_rfl) rfl rfl (fun _ => by kernel_rfl) (fun _ => by kernel_rfl),
    ob_pickT (fun _ => rfl) rfl rfl (fun _ => by kernel_rfl) (fun _ => by kernel_rfl),
    ob_move (fun _ => rfl) rfl rfl (fun _ => by kernel_rfl),
    ob_load (b := (L5.b 7)) (off := 0) (cs := PC r) (by kernel_rfl) (fun _ => by kernel_rfl) rfl rfl (fun _ => by kernel_rfl) (fun _ _ hs => (seen_at (k := 1) hs rfl).cells) Tryd.underlying26 rfl (sizePC _),
    ob_call (vs := #[PV r]) (by kernel_rfl) (by kernel_rfl) (fun _ => by kernel_rfl) rfl rfl (fun _ => by kernel_rfl) (fun w hb _ => by have e := fp2Great K r w (K.stay hg hb); rw [hgr] at e; exact e),
    ob_not (b := false) (fun _ => by kernel_rfl) rfl rfl (fun _ => by kernel_rfl),
    ob_pickT (fun _ => rfl) rfl rfl (fun _ => by kernel_rfl) (fun _ => by kernel_rfl),
    ob_move (fun _ => rfl) rfl rfl (fun _ => by kernel_rfl),
    ob_move (fun _ => by kernel_rfl) rfl rfl (fun _ => by kernel_rfl),
    ob_not (b := true) (fun _ => by kernel_rfl) rfl rfl (fun _ => by kernel_rfl),
    ob_move (fun _ => by kernel_rfl) rfl rfl (fun _ => by kernel_rfl),
    ob_load (b := (L6.b 5)) (off := 0) (cs := PC s) (by kernel_rfl) (fun _ => by kernel_rfl) rfl rfl (fun _ => by kernel_rfl) (fun _ _ hs => (seen_at (k := 2) hs rfl).cells) Tryd.underlying26 rfl (sizePC _),
    ob_load (b := (L6.b 5)) (off := 0) (cs := PC s) (by kernel_rfl) (fun _ => by kernel_rfl) rfl rfl (fun _ => by kernel_rfl) (fun _ _ hs => (seen_at (k := 2) hs rfl).cells) Tryd.underlying26 rfl (sizePC _),
    ob_call (vs := #[PV s, PV s]) (by kernel_rfl) (by kernel_rfl) (fun _ => by kernel_rfl) rfl rfl (fun _ => by kernel_rfl) (fun w hb _ => by have e := fp2Mul K s s w (K.stay hg hb); rw [hss] at e; exact e),
    ob_load (b := (L0.b 0)) (off := 0) (cs := PC z) (by kernel_rfl) (fun _ => by kernel_rfl) rfl rfl (fun _ => by kernel_rfl) (fun _ _ hs => (seen_at (k := 0) hs rfl).cells) Tryd.underlying26 rfl (sizePC _),
    ob_eq (u := PV z) (v := PV z) (fun _ => by kernel_rfl) rfl rfl (fun _ => by kernel_rfl) (fun _ => by kernel_rfl) (fun w => guardP _ _ _ _ _ w) (fun w => (eqlP _ _ w).trans (by rw [decide_eq_true (rfl)]; try rfl)),
    ob_pickF (fun _ => by kernel_rfl) rfl rfl (fun _ => by kernel_rfl) (fun _ => by kernel_rfl),
    ob_pickT (fun _ => rfl) rfl rfl (fun _ => by kernel_rfl) (fun _ => by kernel_rfl),
    ob_move (fun _ => rfl) rfl rfl (fun _ => by kernel_rfl),
    ob_load (b := (L0.b 0)) (off := 0) (cs := PC z) (by kernel_rfl) (fun _ => by kernel_rfl) rfl rfl (fun _ => by kernel_rfl) (fun _ _ hs => (seen_at (k := 0) hs rfl).cells) Tryd.underlying26 rfl (sizePC _),
    ob_build (qs := #[]) (fun _ => by kernel_rfl) rfl rfl (fun _ => by kernel_rfl) buildP0,
    ob_eq (u := PV z) (v := PV 0) (fun _ => by kernel_rfl) rfl rfl (fun _ => by kernel_rfl) (fun _ => by kernel_rfl) (fun w => guardP _ _ _ _ _ w) (fun w => (eqlP _ _ w).trans (by rw [decide_eq_false (h0)]; try rfl)),
    ob_move (fun _ => by kernel_rfl) rfl rfl (fun _ => by kernel_rfl),
    ob_load (b := (L0.b 0)) (off := 0) (cs := PC z) (by kernel_rfl) (fun _ => by kernel_rfl) rfl rfl (fun _ => by kernel_rfl) (fun _ _ hs => (seen_at (k := 0) hs rfl).cells) Tryd.underlying26 rfl (sizePC _),
    ob_call (vs := #[PV z]) (by kernel_rfl) (by kernel_rfl) (fun _ => by kernel_rfl) rfl rfl (fun _ => by kernel_rfl) (fun w hb _ => by have e := fp2Great K z w (K.stay hg hb); rw [hgz] at e; exact e),
    ob_load (b := (L0.b 0)) (off := 0) (cs := PC z) (by kernel_rfl) (fun _ => by kernel_rfl) rfl rfl (fun _ => by kernel_rfl) (fun _ _ hs => (seen_at (k := 0) hs rfl).cells) Tryd.underlying26 rfl (sizePC _),
    ob_call (vs := #[PV z]) (by kernel_rfl) (by kernel_rfl) (fun _ => by kernel_rfl) rfl rfl (fun _ => by kernel_rfl) (fun w hb _ => by have e := fp2Neg K z w (K.stay hg hb); rw [hy] at e; exact e),
    ob_call (vs := #[PV y]) (by kernel_rfl) (by kernel_rfl) (fun _ => by kernel_rfl) rfl rfl (fun _ => by kernel_rfl) (fun w hb _ => by have e := fp2Great K y w (K.stay hg hb); rw [hgy] at e; exact e),
    ob_ne (u := .bool false) (v := .bool true) (fun _ => by kernel_rfl) rfl rfl (fun _ => by kernel_rfl) (fun _ => by kernel_rfl) (fun w => guardB _ _ _ _ _ _ w) (fun w => (neqB _ _ w).trans rfl),
    ob_pickF (fun _ => by kernel_rfl) rfl rfl (fun _ => by kernel_rfl) (fun _ => by kernel_rfl),
    ob_pickT (fun _ => rfl) rfl rfl (fun _ => by kernel_rfl) (fun _ => by kernel_rfl),
    ob_assign (fun _ => rfl) rfl rfl (fun _ => by kernel_rfl),
    trivial⟩ (fun L7 w8 hp8 => ?_)
  refine k10 _ _ ?_
  refine wp_ret ?_
  exact bodyPost_ret (v := .bool true) (res_t rfl (by kernel_rfl) _) rfl ⟨rfl, hp8.bel⟩
set_option maxHeartbeats 4000000 in
theorem sqsb2 {G : World → Prop} (K : FpK G) (R : RefK) (x z y r s : F2) (k : Int) (w : World) (hg : G w) (hH : ∀ w, G w → w.rangeAt 2 0 (FC hf)) (hB : ∀ w, G w → Calls Tryd.prog 7 #[] w (Ret (.bool true) w)) (kl : 0 ≤ k) (ku : k < 256) (hm : k % 4 = 1) (hz : (⟨x.c0, 0⟩ : F2) = z) (hr : (z * z).sq2 = r) (hri : (z * z).is2 = true) (hs : z.sq2 = s) (hsi : z.is2 = false) (hy : -z = y) (hgr : r.great = false) (hgz : z.great = false) (hgy : y.great = true) (h0 : z ≠ 0) (hrz : r = z) : Calls Tryd.prog 6 #[PV x, .int .u8 k] w (Ret (.bool true) w) := by
  have hp0 := Heap.start w
  go_enter Tryd.func6, Tryd.ntmps6
  refine wp_seq_k (fun K1 k1 => ?_)
  refine goes (ks := [.alloc (PC x), .det (.bool false)]) (T := [0, 0]) (nt := 77) (nh := 0) (H := []) (A := fun L => [PV x, .int .u8 k, .pointer (some ⟨L.b 0, 0, none⟩), undef, .bool false, undef, undef, undef, undef, undef, undef, undef, undef, undef, undef, undef, undef, undef, undef, undef, undef, undef, undef, undef, undef, undef, undef, undef, undef, undef, undef, undef, undef, undef, undef, undef, undef, undef, undef, undef, undef, undef, undef, undef, undef, undef, undef, undef, undef, undef, undef, undef, undef, undef, undef, undef, undef, undef, undef, undef, undef, undef, undef, undef, undef, undef, undef, undef, undef, undef, undef, undef, undef, undef, undef, undef, undef]) (H' := fun L => [(L.b 0, PC x)]) (by kernel_rfl) rfl rfl rfl (fun L => by kernel_rfl) (fun L => by kernel_rfl) hp0 ⟨
    ob_box (v := PV x) (fun _ => rfl) rfl rfl (fun _ => by kernel_rfl) rfl,
    ob_assign (fun _ => rfl) rfl rfl (fun _ => by kernel_rfl),
    trivial⟩ (fun L0 w1 hp1 => ?_)
  refine k1 _ _ ?_
  refine wp_seq_k (fun K2 k2 => ?_)
  refine wp_seq_k (fun K3 k3 => ?_)
  refine goes (ks := [.det (.bool true), .det (.bool false)]) (T := [0, 1]) (nt := 77) (nh := 1) (H := [((L0.b 0), PC x)]) (A := fun L => [PV x, .int .u8 k, .pointer (some ⟨(L0.b 0), 0, none⟩), undef, .bool false, undef, undef, undef, undef, .bool true, .bool false, undef, undef, undef, undef, undef, undef, undef, undef, undef, undef, undef, undef, undef, undef, undef, undef, undef, undef, undef, undef, undef, undef, undef, undef, undef, undef, undef, undef, undef, undef, undef, undef, undef, undef, undef, undef, undef, undef, undef, undef, undef, undef, undef, undef, undef, undef, undef, undef, undef, undef, undef, undef, undef, undef, undef, undef, undef, undef, undef, undef, undef, undef, undef, undef, undef, undef]) (H' := fun L => [((L0.b 0), PC x)]) (by kernel_rfl) rfl rfl rfl (fun L => by kernel_rfl) (fun L => by kernel_rfl) hp1 ⟨
    ob_call (vs := #[]) (by kernel_rfl) (by kernel_rfl) (fun _ => rfl) rfl rfl (fun _ => by kernel_rfl) (fun w hb _ => hB w (K.stay hg hb)),
    ob_not (b := true) (fun _ => rfl) rfl rfl (fun _ => by kernel_rfl),
    trivial⟩ (fun L1 w2 hp2 => ?_)
  refine k3 _ _ ?_
  refine wp_cond_false (by kernel_rfl) ?_
  refine skips ?_
  refine k2 _ _ ?_
  refine wp_seq_k (fun K4 k4 => ?_)
  refine wp_seq_k (fun K5 k5 => ?_)
  refine goes (ks := [.det (PV x), .det (.bool true), .det (.bool false)]) (T := [0, 1, 3]) (nt := 77) (nh := 1) (H := [((L0.b 0), PC x)]) (A := fun L => [PV x, .int .u8 k, .pointer (some ⟨(L0.b 0), 0, none⟩), undef, .bool false, undef, undef, undef, undef, .bool true, .bool false, PV x, .bool true, .bool false, undef, undef, undef, undef, undef, undef, undef, undef, undef, undef, undef, undef, undef, undef, undef, undef, undef, undef, undef, undef, undef, undef, undef, undef, undef, undef, undef, undef, undef, undef, undef, undef, undef, undef, undef, undef, undef, undef, undef, undef, undef, undef, undef, undef, undef, undef, undef, undef, undef, undef, undef, undef, undef, undef, undef, undef, undef, undef, undef, undef, undef, undef, undef]) (H' := fun L => [((L0.b 0), PC x)]) (by kernel_rfl) rfl rfl rfl (fun L => by kernel_rfl) (fun L => by kernel_rfl) hp2 ⟨
    ob_load (b := (L0.b 0)) (off := 0) (cs := PC x) (by kernel_rfl) (fun _ => rfl) rfl rfl (fun _ => by kernel_rfl) (fun _ _ hs => (seen_at (k := 0) hs rfl).cells) Tryd.underlying26 rfl (sizePC _),
    ob_call (vs := #[PV x]) (by kernel_rfl) (by kernel_rfl) (fun _ => rfl) rfl rfl (fun _ => by kernel_rfl) (fun w _ _ => ref5MayP R _ w),
    ob_not (b := true) (fun _ => rfl) rfl rfl (fun _ => by kernel_rfl),
    trivial⟩ (fun L2 w3 hp3 => ?_)
  refine k5 _ _ ?_
  refine wp_cond_false (by kernel_rfl) ?_
  refine skips ?_
  refine k4 _ _ ?_
  refine wp_seq_k (fun K6 k6 => ?_)
  refine wp_seq_k (fun K7 k7 => ?_)
  refine goes (ks := [.det (.int .u8 k), .det (.int .u8 1), .det (.bool true)]) (T := [0, 1, 3]) (nt := 77) (nh := 1) (H := [((L0.b 0), PC x)]) (A := fun L => [PV x, .int .u8 k, .pointer (some ⟨(L0.b 0), 0, none⟩), undef, .bool false, undef, undef, undef, undef, .bool true, .bool false, PV x, .bool true, .bool false, .int .u8 k, .int .u8 1, .bool true, undef, undef, undef, undef, undef, undef, undef, undef, undef, undef, undef, undef, undef, undef, undef, undef, undef, undef, undef, undef, undef, undef, undef, undef, undef, undef, undef, undef, undef, undef, undef, undef, undef, undef, undef, undef, undef, undef, undef, undef, undef, undef, undef, undef, undef, undef, undef, undef, undef, undef, undef, undef, undef, undef, undef, undef, undef, undef, undef, undef]) (H' := fun L => [((L0.b 0), PC x)]) (by kernel_rfl) rfl rfl rfl (fun L => by kernel_rfl) (fun L => by kernel_rfl) hp3 ⟨
    ob_move (fun _ => rfl) rfl rfl (fun _ => by kernel_rfl),
    ob_bin (u := .int .u8 k) (v := .int .u8 4) (fun _ => rfl) rfl rfl (fun _ => by kernel_rfl) (fun _ => by kernel_rfl) (fun w => guardI _ _ _ _ _ _ _ _ w) (fun w => rem4 _ _ _ kl ku hm w),
    ob_eq (u := .int .u8 1) (v := .int .u8 1) (fun _ => rfl) rfl rfl (fun _ => by kernel_rfl) (fun _ => by kernel_rfl) (fun w => guardI _ _ _ _ _ _ _ _ w) (fun w => (eqlI _ _ _ _ w).trans rfl),
    trivial⟩ (fun L3 w4 hp4 => ?_)
  refine k7 _ _ ?_
  refine wp_cond_true (by kernel_rfl) ?_
  refine goes (ks := [.det (FV 0), .det (.pointer (some ⟨(L0.b 0), 6, none⟩)), .store (.base 0) 6 (FC 0) (PC z)]) (T := [0, 1, 3]) (nt := 77) (nh := 1) (H := [((L0.b 0), PC x)]) (A := fun L => [PV x, .int .u8 k, .pointer (some ⟨(L0.b 0), 0, none⟩), undef, .bool false, undef, undef, undef, undef, .bool true, .bool false, PV x, .bool true, .bool false, .int .u8 k, .int .u8 1, .bool true, FV 0, .pointer (some ⟨(L0.b 0), 6, none⟩), undef, undef, undef, undef, undef, undef, undef, undef, undef, undef, undef, undef, undef, undef, undef, undef, undef, undef, undef, undef, undef, undef, undef, undef, undef, undef, undef, undef, undef, undef, undef, undef, undef, undef, undef, undef, undef, undef, undef, undef, undef, undef, undef, undef, undef, undef, undef, undef, undef, undef, undef, undef, undef, undef, undef, undef, undef, undef]) (H' := fun L => [((L0.b 0), PC z)]) (by kernel_rfl) rfl rfl rfl (fun L => by kernel_rfl) (fun L => by kernel_rfl) hp4 ⟨
    ob_build (qs := #[]) (fun _ => rfl) rfl rfl (fun _ => by kernel_rfl) buildF0,
    ob_index (b := (L0.b 0)) (off := 0) (k := 1) (sz := 6) (n := 2) (fun _ => rfl) rfl rfl (fun _ => by kernel_rfl) (fun _ => by kernel_rfl) Tryd.underlying26 sizeF (by decide) rfl,
    ob_store (old := PC x) (fun _ => rfl) rfl rfl (fun _ => by kernel_rfl) (fun _ => by kernel_rfl) rfl (sizeFC _) (FC_one _) (le_len (FC_len _) (PC_len _) (by decide)) (by subst hz; rfl),
    trivial⟩ (fun L4 w5 hp5 => ?_)
  refine k6 _ _ ?_
  refine wp_seq_k (fun K8 k8 => ?_)
  refine goes (ks := [.det (PV z), .det (PV z), .det (PV (z * z)), .det (.tuple #[PV r, .bool true]), .det (.tuple #[PV r, .bool true]), .det (PV r), .det (.bool true), .alloc (PC 0), .store (.new 7) 0 (PC r) (PC r), .det (.bool true)]) (T := [0, 0, 3, 7, 15, 31, 31, 0, 191, 511]) (nt := 77) (nh := 1) (H := [((L0.b 0), PC z)]) (A := fun L => [PV x, .int .u8 k, .pointer (some ⟨(L0.b 0), 0, none⟩), undef, .bool false, .pointer (some ⟨L.b 7, 0, none⟩), .bool true, undef, undef, .bool true, .bool false, PV x, .bool true, .bool false, .int .u8 k, .int .u8 1, .bool true, FV 0, .pointer (some ⟨(L0.b 0), 6, none⟩), undef, undef, undef, undef, undef, .tuple #[PV r, .bool true], PV z, PV z, PV (z * z), .tuple #[PV r, .bool true], PV r, .bool true, undef, undef, undef, undef, undef, undef, undef, undef, undef, undef, undef, undef, undef, undef, undef, undef, undef, undef, undef, undef, undef, undef, undef, undef, undef, undef, undef, undef, undef, undef, undef, undef, undef, undef, undef, undef, undef, undef, undef, undef, undef, undef, undef, undef, undef, undef]) (H' := fun L => [((L0.b 0), PC z), (L.b 7, PC r)]) (by kernel_rfl) rfl rfl rfl (fun L => by kernel_rfl) (fun L => by kernel_rfl) hp5 ⟨
    ob_load (b := (L0.b 0)) (off := 0) (cs := PC z) (by kernel_rfl) (fun _ => rfl) rfl rfl (fun _ => by kernel_rfl) (fun _ _ hs => (seen_at (k := 0) hs rfl).cells) Tryd.underlying26 rfl (sizePC _),
    ob_load (b := (L0.b 0)) (off := 0) (cs := PC z) (by kernel_rfl) (fun _ => rfl) rfl rfl (fun _ => by kernel_rfl) (fun _ _ hs => (seen_at (k := 0) hs rfl).cells) Tryd.underlying26 rfl (sizePC _),
    ob_call (vs := #[PV z, PV z]) (by kernel_rfl) (by kernel_rfl) (fun _ => rfl) rfl rfl (fun _ => by kernel_rfl) (fun w hb _ => fp2Mul K _ _ w (K.stay hg hb)),
    ob_call (vs := #[PV (z * z)]) (by kernel_rfl) (by kernel_rfl) (fun _ => rfl) rfl rfl (fun _ => by kernel_rfl) (fun w hb _ => by have e := fp2Sqrt K (z * z) w (K.stay hg hb) hH; rw [hr, hri] at e; exact e),
    ob_move (fun _ => rfl) rfl rfl (fun _ => by kernel_rfl),
    ob_extract (vs := #[PV r, .bool true]) (fun _ => rfl) rfl rfl (fun _ => by kernel_rfl) rfl,
    ob_extract (vs := #[PV r, .bool true]) (fun _ => rfl) rfl rfl (fun _ => by kernel_rfl) rfl,
    ob_alloc (v := PV 0) (fun _ => rfl) rfl rfl zeroP rfl,
    ob_store (old := PC 0) (fun _ => rfl) rfl rfl (fun _ => by kernel_rfl) (fun _ => by kernel_rfl) rfl (sizePC _) (PC_one _) (le_len (PC_len _) (PC_len _) (by decide)) (splice_all ((PC_len _).trans (PC_len _).symm)).symm,
    ob_assign (fun _ => rfl) rfl rfl (fun _ => by kernel_rfl),
    trivial⟩ (fun L5 w6 hp6 => ?_)
  refine k8 _ _ ?_
  refine wp_seq_k (fun K9 k9 => ?_)
  refine goes (ks := [.det (PV z), .det (.tuple #[PV s, .bool false]), .det (.tuple #[PV s, .bool false]), .det (PV s), .det (.bool false), .alloc (PC 0), .store (.new 5) 0 (PC s) (PC s), .det (.bool false)]) (T := [0, 1, 3, 7, 7, 0, 47, 127]) (nt := 77) (nh := 2) (H := [((L0.b 0), PC z), ((L5.b 7), PC r)]) (A := fun L => [PV x, .int .u8 k, .pointer (some ⟨(L0.b 0), 0, none⟩), undef, .bool false, .pointer (some ⟨(L5.b 7), 0, none⟩), .bool true, .pointer (some ⟨L.b 5, 0, none⟩), .bool false, .bool true, .bool false, PV x, .bool true, .bool false, .int .u8 k, .int .u8 1, .bool true, FV 0, .pointer (some ⟨(L0.b 0), 6, none⟩), undef, undef, undef, undef, undef, .tuple #[PV r, .bool true], PV z, PV z, PV (z * z), .tuple #[PV r, .bool true], PV r, .bool true, .tuple #[PV s, .bool false], PV z, .tuple #[PV s, .bool false], PV s, .bool false, undef, undef, undef, undef, undef, undef, undef, undef, undef, undef, undef, undef, undef, undef, undef, undef, undef, undef, undef, undef, undef, undef, undef, undef, undef, undef, undef, undef, undef, undef, undef, undef, undef, undef, undef, undef, undef, undef, undef, undef, undef]) (H' := fun L => [((L0.b 0), PC z), ((L5.b 7), PC r), (L.b 5, PC s)]) (by kernel_rfl) rfl rfl rfl (fun L => by kernel_rfl) (fun L => by kernel_rfl) hp6 ⟨
    ob_load (b := (L0.b 0)) (off := 0) (cs := PC z) (by kernel_rfl) (fun _ => rfl) rfl rfl (fun _ => by kernel_rfl) (fun _ _ hs => (seen_at (k := 0) hs rfl).cells) Tryd.underlying26 rfl (sizePC _),
    ob_call (vs := #[PV z]) (by kernel_rfl) (by kernel_rfl) (fun _ => rfl) rfl rfl (fun _ => by kernel_rfl) (fun w hb _ => by have e := fp2Sqrt K z w (K.stay hg hb) hH; rw [hs, hsi] at e; exact e),
    ob_move (fun _ => rfl) rfl rfl (fun _ => by kernel_rfl),
    ob_extract (vs := #[PV s, .bool false]) (fun _ => rfl) rfl rfl (fun _ => by kernel_rfl) rfl,
    ob_extract (vs := #[PV s, .bool false]) (fun _ => rfl) rfl rfl (fun _ => by kernel_rfl) rfl,
    ob_alloc (v := PV 0) (fun _ => rfl) rfl rfl zeroP rfl,
    ob_store (old := PC 0) (fun _ => rfl) rfl rfl (fun _ => by kernel_rfl) (fun _ => by kernel_rfl) rfl (sizePC _) (PC_one _) (le_len (PC_len _) (PC_len _) (by decide)) (splice_all ((PC_len _).trans (PC_len _).symm)).symm,
    ob_assign (fun _ => rfl) rfl rfl (fun _ => by kernel_rfl),
    trivial⟩ (fun L6 w7 hp7 => ?_)
  refine k9 _ _ ?_
  refine wp_seq_k (fun K10 k10 => ?_)
  refine draws (by kernel_rfl) (ks := [.det (.bool true), .det (.bool true), .det (PV r), .det (PV z), .det (.bool true), .det (.bool true), .det undef, .det undef, .det undef, .det undef, .det (.bool true), .det (.bool true), .det (.bool true), .det (PV r), .det (.bool false), .det (.bool true), .det (.bool true), .det (.bool true), .det (.bool false), .det (.bool true), .det (.bool true), .det undef, .det undef, .det undef, .det undef, .det undef, .det (.bool true), .det (.bool true), .det (.bool true), .det (PV z), .det (PV 0), .det (.bool false), .det (.bool false), .det (PV z), .det (.bool false), .det (PV z), .det (PV y), .det (.bool true), .det (.bool true), .det (.bool true), .det (.bool true), .det (.bool true)]) (T := [0, 1, 3, 3, 15, 31, 63, 63, 191, 511, 1023, 2047, 4095, 8191, 16383, 32767, 65535, 131071, 262143, 524287, 1048575, 2097151, 2097151, 8388607, 2097151, 33554431, 67108863, 134217727, 268435455, 536870911, 536870911, 2147483647, 4294967295, 8589934591, 17179869183, 8589934591, 68719476735, 137438953471, 274877906943, 549755813887, 1099511627775, 2199023255551]) (nt := 77) (nh := 3) (H := [((L0.b 0), PC z), ((L5.b 7), PC r), ((L6.b 5), PC s)]) (A := fun L => [PV x, .int .u8 k, .pointer (some ⟨(L0.b 0), 0, none⟩), undef, .bool true, .pointer (some ⟨(L5.b 7), 0, none⟩), .bool true, .pointer (some ⟨(L6.b 5), 0, none⟩), .bool false, .bool true, .bool false, PV x, .bool true, .bool false, .int .u8 k, .int .u8 1, .bool true, FV 0, .pointer (some ⟨(L0.b 0), 6, none⟩), undef, undef, undef, undef, undef, .tuple #[PV r, .bool true], PV z, PV z, PV (z * z), .tuple #[PV r, .bool true], PV r, .bool true, .tuple #[PV s, .bool false], PV z, .tuple #[PV s, .bool false], PV s, .bool false, .bool true, .bool true, PV r, PV z, .bool true, .bool true, undef, undef, undef, undef, .bool true, .bool true, .bool true, PV r, .bool false, .bool true, .bool true, .bool true, .bool false, .bool true, .bool true, undef, undef, undef, undef, undef, .bool true, .bool true, .bool true, PV z, PV 0, .bool false, .bool false, PV z, .bool false, PV z, PV y, .bool true, .bool true, .bool true, .bool true]) (H' := fun L => [((L0.b 0), PC z), ((L5.b 7), PC r), ((L6.b 5), PC s)]) (by kernel_rfl) rfl rfl rfl (fun L => by kernel_rfl) (fun L => by kernel_rfl) hp7 ⟨
    ob_move (fun _ => rfl) rfl rfl (fun _ => by kernel_rfl),
    ob_move (fun _ => rfl) rfl rfl (fun _ => by kernel_rfl),
    ob_load (b := (L5.b 7)) (off := 0) (cs := PC r) (by kernel_rfl) (fun _ => by kernel_rfl) rfl rfl (fun _ => by kernel_rfl) (fun _ _ hs => (seen_at (k := 1) hs rfl).cells) Tryd.underlying26 rfl (sizePC _),
    ob_load (b := (L0.b 0)) (off := 0) (cs := PC z) (by kernel_rfl) (fun _ => by kernel_rfl) rfl rfl (fun _ => by kernel_rfl) (fun _ _ hs => (seen_at (k := 0) hs rfl).cells) Tryd.underlying26 rfl (sizePC _),
    ob_eq (u := PV r) (v := PV z) (fun _ => by kernel_rfl) rfl rfl (fun _ => by kernel_rfl) (fun _ => by kernel_rfl) (fun w => guardP _ _ _ _ _ w) (fun w => (eqlP _ _ w).trans (by rw [decide_eq_true (hrz)]; try rfl)),
    ob_move (fun _ => by kernel_rfl) rfl rfl (fun _ => by kernel_rfl),
    ob_skip (fun _ => by kernel_rfl) rfl,
    ob_skip (fun _ => by kernel_rfl) rfl,
    ob_skip (fun _ => by kernel_rfl) rfl,
    ob_skip (fun _ => by kernel_rfl) rfl,
    ob_pickT (fun _ => by kernel_rfl) rfl rfl (fun _ => by kernel_rfl) (fun _ => by kernel_rfl),
    ob_pickT (fun _ => rfl) rfl rfl (fun _ => by kernel_rfl) (fun _ => by kernel_rfl),
    ob_move (fun _ => rfl) rfl rfl (fun _ => by kernel_rfl),
    ob_load (b := (L5.b 7)) (off := 0) (cs := PC r) (by kernel_rfl) (fun _ => by kernel_rfl) rfl rfl (fun _ => by kernel_rfl) (fun _ _ hs => (seen_at (k := 1) hs rfl).cells) Tryd.underlying26 rfl (sizePC _),
    ob_call (vs := #[PV r]) (by kernel_rfl) (by kernel_rfl) (fun _ => by kernel_rfl) rfl rfl (fun _ => by kernel_rfl) (fun w hb _ => by have e := fp2Great K r w (K.stay hg hb); rw [hgr] at e; exact e),
    ob_not (b := false) (fun _ => by kernel_rfl) rfl rfl (fun _ => by kernel_rfl),
    ob_pickT (fun _ => rfl) rfl rfl (fun _ => by kernel_rfl) (fun _ => by kernel_rfl),
    ob_move (fun _ => rfl) rfl rfl (fun _ => by kernel_rfl),
    ob_move (fun _ => by kernel_rfl) rfl rfl (fun _ => by kernel_rfl),
    ob_not (b := false) (fun _ => by kernel_rfl) rfl rfl (fun _ => by kernel_rfl),
    ob_move (fun _ => by kernel_rfl) rfl rfl (fun _ => by kernel_rfl),
    ob_skip (fun _ => by kernel_rfl) rfl,
    ob_skip (fun _ => by kernel_rfl) rfl,
    ob_skip (fun _ => by kernel_rfl) rfl,
    ob_skip (fun _ => by kernel_rfl) rfl,
    ob_skip (fun _ => by kernel_rfl) rfl,
    ob_pickT (fun _ => by kernel_rfl) rfl rfl (fun _ => by kernel_rfl) (fun _ => by kernel_rfl),
    ob_pickT (fun _ => rfl) rfl rfl (fun _ => by kernel_rfl) (fun _ => by kernel_rfl),
    ob_move (fun _ => rfl) rfl rfl (fun _ => by kernel_rfl),
    ob_load (b := (L0.b 0)) (off := 0) (cs := PC z) (by kernel_rfl) (fun _ => by kernel_rfl) rfl rfl (fun _ => by kernel_rfl) (fun _ _ hs => (seen_at (k := 0) hs rfl).cells) Tryd.underlying26 rfl (sizePC _),
    ob_build (qs := #[]) (fun _ => by kernel_rfl) rfl rfl (fun _ => by kernel_rfl) buildP0,
    ob_eq (u := PV z) (v := PV 0) (fun _ => by kernel_rfl) rfl rfl (fun _ => by kernel_rfl) (fun _ => by kernel_rfl) (fun w => guardP _ _ _ _ _ w) (fun w => (eqlP _ _ w).trans (by rw [decide_eq_false (h0)]; try rfl)),
    ob_move (fun _ => by kernel_rfl) rfl rfl (fun _ => by kernel_rfl),
    ob_load (b := (L0.b 0)) (off := 0) (cs := PC z) (by kernel_rfl) (fun _ => by kernel_rfl) rfl rfl (fun _ => by kernel_rfl) (fun _ _ hs => (seen_at (k := 0) hs rfl).cells) Tryd.underlying26 rfl (sizePC _),
    ob_call (vs := #[PV z]) (by kernel_rfl) (by kernel_rfl) (fun _ => by kernel_rfl) rfl rfl (fun _ => by kernel_rfl) (fun w hb _ => by have e := fp2Great K z w (K.stay hg hb); rw [hgz] at e; exact e),
    ob_load (b := (L0.b 0)) (off := 0) (cs := PC z) (by kernel_rfl) (fun _ => by kernel_rfl) rfl rfl (fun _ => by kernel_rfl) (fun _ _ hs => (seen_at (k := 0) hs rfl).cells) Tryd.underlying26 rfl (sizePC _),
    ob_call (vs := #[PV z]) (by kernel_rfl) (by kernel_rfl) (fun _ => by kernel_rfl) rfl rfl (fun _ => by kernel_rfl) (fun w hb _ => by have e := fp2Neg K z w (K.stay hg hb); rw [hy] at e; exact e),
    ob_call (vs := #[PV y]) (by kernel_rfl) (by kernel_rfl) (fun _ => by kernel_rfl) rfl rfl (fun _ => by kernel_rfl) (fun w hb _ => by have e := fp2Great K y w (K.stay hg hb); rw [hgy] at e; exact e),
    ob_ne (u := .bool false) (v := .bool true) (fun _ => by kernel_rfl) rfl rfl (fun _ => by kernel_rfl) (fun _ => by kernel_rfl) (fun w => guardB _ _ _ _ _ _ w) (fun w => (neqB _ _ w).trans rfl),
    ob_pickF (fun _ => by kernel_rfl) rfl rfl (fun _ => by kernel_rfl) (fun _ => by kernel_rfl),
    ob_pickT (fun _ => rfl) rfl rfl (fun _ => by kernel_rfl) (fun _ => by kernel_rfl),
    ob_assign (fun _ => rfl) rfl rfl (fun _ => by kernel_rfl),
    trivial⟩ (fun L7 w8 hp8 => ?_)
  refine k10 _ _ ?_
  refine wp_ret ?_
  exact bodyPost_ret (v := .bool true) (res_t rfl (by kernel_rfl) _) rfl ⟨rfl, hp8.bel⟩
set_option maxHeartbeats 4000000 in
theorem sqsb3 {G : World → Prop} (K : FpK G) (R : RefK) (x z y r s : F2) (k : Int) (w : World) (hg : G w) (hH : ∀ w, G w → w.rangeAt 2 0 (FC hf)) (hB : ∀ w, G w → Calls Tryd.prog 7 #[] w (Ret (.bool true) w)) (kl : 0 ≤ k) (ku : k < 256) (hm : k % 4 = 1) (hz : (⟨x.c0, 0⟩ : F2) = z) (hr : (z * z).sq2 = r) (hri : (z * z).is2 = true) (hs : z.sq2 = s) (hsi : z.is2 = true) (hss : s * s = z) (hy : -z = y) (hgr : r.great = false) (hgz : z.great = true) (hgy : y.great = false) (h0 : z ≠ 0) (hrz : r ≠ z) (hry : r = y) : Calls Tryd.prog 6 #[PV x, .int .u8 k] w (Ret (.bool true) w) := by
  have hp0 := Heap.start w
  go_enter Tryd.func6, Tryd.ntmps6
  refine wp_seq_k (fun K1 k1 => ?_)
  refine goes (ks := [.alloc (PC x), .det (.bool false)]) (T := [0, 0]) (nt := 77) (nh := 0) (H := []) (A := fun L => [PV x, .int .u8 k, .pointer (some ⟨L.b 0, 0, none⟩), undef, .bool false, undef, undef, undef, undef, undef, undef, undef, undef, undef, undef, undef, undef, undef, undef, undef, undef, undef, undef, undef, undef, undef, undef, undef, undef, undef, undef, undef, undef, undef, undef, undef, undef, undef, undef, undef, undef, undef, undef, undef, undef, undef, undef, undef, undef, undef, undef, undef, undef, undef, undef, undef, undef, undef, undef, undef, undef, undef, undef, undef, undef, undef, undef, undef, undef, undef, undef, undef, undef, undef, undef, undef, undef]) (H' := fun L => [(L.b 0, PC x)]) (by kernel_rfl) rfl rfl rfl (fun L => by kernel_rfl) (fun L => by kernel_rfl) hp0 ⟨
    ob_box (v := PV x) (fun _ => rfl) rfl rfl (fun _ => by kernel_rfl) rfl,
    ob_assign (fun _ => rfl) rfl rfl (fun _ => by kernel_rfl),
    trivial⟩ (fun L0 w1 hp1 => ?_)
  refine k1 _ _ ?_
  refine wp_seq_k (fun K2 k2 => ?_)
  refine wp_seq_k (fun K3 k3 => ?_)
  refine goes (ks := [.det (.bool true), .det (.bool false)]) (T := [0, 1]) (nt := 77) (nh := 1) (H := [((L0.b 0), PC x)]) (A := fun L => [PV x, .int .u8 k, .pointer (some ⟨(L0.b 0), 0, none⟩), undef, .bool false, undef, undef, undef, undef, .bool true, .bool false, undef, undef, undef, undef, undef, undef, undef, undef, undef, undef, undef, undef, undef, undef, undef, undef, undef, undef, undef, undef, undef, undef, undef, undef, undef, undef, undef, undef, undef, undef, undef, undef, undef, undef, undef, undef, undef, undef, undef, undef, undef, undef, undef, undef, undef, undef, undef, undef, undef, undef, undef, undef, undef, undef, undef, undef, undef, undef, undef, undef, undef, undef, undef, undef, undef, undef]) (H' := fun L => [((L0.b 0), PC x)]) (by kernel_rfl) rfl rfl rfl (fun L => by kernel_rfl) (fun L => by kernel_rfl) hp1 ⟨
    ob_call (vs := #[]) (by kernel_rfl) (by kernel_rfl) (fun _ => rfl) rfl rfl (fun _ => by kernel_rfl) (fun w hb _ => hB w (K.stay hg hb)),
    ob_not (b := true) (fun _ => rfl) rfl rfl (fun _ => by kernel_rfl),
    trivial⟩ (fun L1 w2 hp2 => ?_)
  refine k3 _ _ ?_
  refine wp_cond_false (by kernel_rfl) ?_
  refine skips ?_
  refine k2 _ _ ?_
  refine wp_seq_k (fun K4 k4 => ?_)
  refine wp_seq_k (fun K5 k5 => ?_)
  refine goes (ks := [.det (PV x), .det (.bool true), .det (.bool false)]) (T := [0, 1, 3]) (nt := 77) (nh := 1) (H := [((L0.b 0), PC x)]) (A := fun L => [PV x, .int .u8 k, .pointer (some ⟨(L0.b 0), 0, none⟩), undef, .bool false, undef, undef, undef, undef, .bool true, .bool false, PV x, .bool true, .bool false, undef, undef, undef, undef, undef, undef, undef, undef, undef, undef, undef, undef, undef, undef, undef, undef, undef, undef, undef, undef, undef, undef, undef, undef, undef, undef, undef, undef, undef, undef, undef, undef, undef, undef, undef, undef, undef, undef, undef, undef, undef, undef, undef, undef, undef, undef, undef, undef, undef, undef, undef, undef, undef, undef, undef, undef, undef, undef, undef, undef, undef, undef, undef]) (H' := fun L => [((L0.b 0), PC x)]) (by kernel_rfl) rfl rfl rfl (fun L => by kernel_rfl) (fun L => by kernel_rfl) hp2 ⟨
    ob_load (b := (L0.b 0)) (off := 0) (cs := PC x) (by kernel_rfl) (fun _ => rfl) rfl rfl (fun _ => by kernel_rfl) (fun _ _ hs => (seen_at (k := 0) hs rfl).cells) Tryd.underlying26 rfl (sizePC _),
    ob_call (vs := #[PV x]) (by kernel_rfl) (by kernel_rfl) (fun _ => rfl) rfl rfl (fun _ => by kernel_rfl) (fun w _ _ => ref5MayP R _ w),
    ob_not (b := true) (fun _ => rfl) rfl rfl (fun _ => by kernel_rfl),
    trivial⟩ (fun L2 w3 hp3 => ?_)
  refine k5 _ _ ?_
  refine wp_cond_false (by kernel_rfl) ?_
  refine skips ?_
  refine k4 _ _ ?_
  refine wp_seq_k (fun K6 k6 => ?_)
  refine wp_seq_k (fun K7 k7 => ?_)
  refine goes (ks := [.det (.int .u8 k), .det (.int .u8 1), .det (.bool true)]) (T := [0, 1, 3]) (nt := 77) (nh := 1) (H := [((L0.b 0), PC x)]) (A := fun L => [PV x, .int .u8 k, .pointer (some ⟨(L0.b 0), 0, none⟩), undef, .bool false, undef, undef, undef, undef, .bool true, .bool false, PV x, .bool true, .bool false, .int .u8 k, .int .u8 1, .bool true, undef, undef, undef, undef, undef, undef, undef, undef, undef, undef, undef, undef, undef, undef, undef, undef, undef, undef, undef, undef, undef, undef, undef, undef, undef, undef, undef, undef, undef, undef, undef, undef, undef, undef, undef, undef, undef, undef, undef, undef, undef, undef, undef, undef, undef, undef, undef, undef, undef, undef, undef, undef, undef, undef, undef, undef, undef, undef, undef, undef]) (H' := fun L => [((L0.b 0), PC x)]) (by kernel_rfl) rfl rfl rfl (fun L => by kernel_rfl) (fun L => by kernel_rfl) hp3 ⟨
    ob_move (fun _ => rfl) rfl rfl (fun _ => by kernel_rfl),
    ob_bin (u := .int .u8 k) (v := .int .u8 4) (fun _ => rfl) rfl rfl (fun _ => by kernel_rfl) (fun _ => by kernel_rfl) (fun w => guardI _ _ _ _ _ _ _ _ w) (fun w => rem4 _ _ _ kl ku hm w),
    ob_eq (u := .int .u8 1) (v := .int .u8 1) (fun _ => rfl) rfl rfl (fun _ => by kernel_rfl) (fun _ => by kernel_rfl) (fun w => guardI _ _ _ _ _ _ _ _ w) (fun w => (eqlI _ _ _ _ w).trans rfl),
    trivial⟩ (fun L3 w4 hp4 => ?_)
  refine k7 _ _ ?_
  refine wp_cond_true (by kernel_rfl) ?_
  refine goes (ks := [.det (FV 0), .det (.pointer (some ⟨(L0.b 0), 6, none⟩)), .store (.base 0) 6 (FC 0) (PC z)]) (T := [0, 1, 3]) (nt := 77) (nh := 1) (H := [((L0.b 0), PC x)]) (A := fun L => [PV x, .int .u8 k, .pointer (some ⟨(L0.b 0), 0, none⟩), undef, .bool false, undef, undef, undef, undef, .bool true, .bool false, PV x, .bool true, .bool false, .int .u8 k, .int .u8 1, .bool true, FV 0, .pointer (some ⟨(L0.b 0), 6, none⟩), undef, undef, undef, undef, undef, undef, undef, undef, undef, undef, undef, undef, undef, undef, undef, undef, undef, undef, undef, undef, undef, undef, undef, undef, undef, undef, undef, undef, undef, undef, undef, undef, undef, undef, undef, undef, undef, undef, undef, undef, undef, undef, undef, undef, undef, undef, undef, undef, undef, undef, undef, undef, undef, undef, undef, undef, undef, undef]) (H' := fun L => [((L0.b 0), PC z)]) (by kernel_rfl) rfl rfl rfl (fun L => by kernel_rfl) (fun L => by kernel_rfl) hp4 ⟨
    ob_build (qs := #[]) (fun _ => rfl) rfl rfl (fun _ => by kernel_rfl) buildF0,
    ob_index (b := (L0.b 0)) (off := 0) (k := 1) (sz := 6) (n := 2) (fun _ => rfl) rfl rfl (fun _ => by kernel_rfl) (fun _ => by kernel_rfl) Tryd.underlying26 sizeF (by decide) rfl,
    ob_store (old := PC x) (fun _ => rfl) rfl rfl (fun _ => by kernel_rfl) (fun _ => by kernel_rfl) rfl (sizeFC _) (FC_one _) (le_len (FC_len _) (PC_len _) (by decide)) (by subst hz; rfl),
    trivial⟩ (fun L4 w5 hp5 => ?_)
  refine k6 _ _ ?_
  refine wp_seq_k (fun K8 k8 => ?_)
  refine goes (ks := [.det (PV z), .det (PV z), .det (PV (z * z)), .det (.tuple #[PV r, .bool true]), .det (.tuple #[PV r, .bool true]), .det (PV r), .det (.bool true), .alloc (PC 0), .store (.new 7) 0 (PC r) (PC r), .det (.bool true)]) (T := [0, 0, 3, 7, 15, 31, 31, 0, 191, 511]) (nt := 77) (nh := 1) (H := [((L0.b 0), PC z)]) (A := fun L => [PV x, .int .u8 k, .pointer (some ⟨(L0.b 0), 0, none⟩), undef, .bool false, .pointer (some ⟨L.b 7, 0, none⟩), .bool true, undef, undef, .bool true, .bool false, PV x, .bool true, .bool false, .int .u8 k, .int .u8 1, .bool true, FV 0, .pointer (some ⟨(L0.b 0), 6, none⟩), undef, undef, undef, undef, undef, .tuple #[PV r, .bool true], PV z, PV z, PV (z * z), .tuple #[PV r, .bool true], PV r, .bool true, undef, undef, undef, undef, undef, undef, undef, undef, undef, undef, undef, undef, undef, undef, undef, undef, undef, undef, undef, undef, undef, undef, undef, undef, undef, undef, undef, undef, undef, undef, undef, undef, undef, undef, undef, undef, undef, undef, undef, undef, undef, undef, undef, undef, undef, undef]) (H' := fun L => [((L0.b 0), PC z), (L.b 7, PC r)]) (by kernel_rfl) rfl rfl rfl (fun L => by kernel_rfl) (fun L => by kernel_rfl) hp5 ⟨
    ob_load (b := (L0.b 0)) (off := 0) (cs := PC z) (by kernel_rfl) (fun _ => rfl) rfl rfl (fun _ => by kernel_rfl) (fun _ _ hs => (seen_at (k := 0) hs rfl).cells) Tryd.underlying26 rfl (sizePC _),
    ob_load (b := (L0.b 0)) (off := 0) (cs := PC z) (by kernel_rfl) (fun _ => rfl) rfl rfl (fun _ => by kernel_rfl) (fun _ _ hs => (seen_at (k := 0) hs rfl).cells) Tryd.underlying26 rfl (sizePC _),
    ob_call (vs := #[PV z, PV z]) (by kernel_rfl) (by kernel_rfl) (fun _ => rfl) rfl rfl (fun _ => by kernel_rfl) (fun w hb _ => fp2Mul K _ _ w (K.stay hg hb)),
    ob_call (vs := #[PV (z * z)]) (by kernel_rfl) (by kernel_rfl) (fun _ => rfl) rfl rfl (fun _ => by kernel_rfl) (fun w hb _ => by have e := fp2Sqrt K (z * z) w (K.stay hg hb) hH; rw [hr, hri] at e; exact e),
    ob_move (fun _ => rfl) rfl rfl (fun _ => by kernel_rfl),
    ob_extract (vs := #[PV r, .bool true]) (fun _ => rfl) rfl rfl (fun _ => by kernel_rfl) rfl,
    ob_extract (vs := #[PV r, .bool true]) (fun _ => rfl) rfl rfl (fun _ => by kernel_rfl) rfl,
    ob_alloc (v := PV 0) (fun _ => rfl) rfl rfl zeroP rfl,
    ob_store (old := PC 0) (fun _ => rfl) rfl rfl (fun _ => by kernel_rfl) (fun _ => by kernel_rfl) rfl (sizePC _) (PC_one _) (le_len (PC_len _) (PC_len _) (by decide)) (splice_all ((PC_len _).trans (PC_len _).symm)).symm,
    ob_assign (fun _ => rfl) rfl rfl (fun _ => by kernel_rfl),
    trivial⟩ (fun L5 w6 hp6 => ?_)
  refine k8 _ _ ?_
  refine wp_seq_k (fun K9 k9 => ?_)
  refine goes (ks := [.det (PV z), .det (.tuple #[PV s, .bool true]), .det (.tuple #[PV s, .bool true]), .det (PV s), .det (.bool true), .alloc (PC 0), .store (.new 5) 0 (PC s) (PC s), .det (.bool true)]) (T := [0, 1, 3, 7, 7, 0, 47, 127]) (nt := 77) (nh := 2) (H := [((L0.b 0), PC z), ((L5.b 7), PC r)]) (A := fun L => [PV x, .int .u8 k, .pointer (some ⟨(L0.b 0), 0, none⟩), undef, .bool false, .pointer (some ⟨(L5.b 7), 0, none⟩), .bool true, .pointer (some ⟨L.b 5, 0, none⟩), .bool true, .bool true, .bool false, PV x, .bool true, .bool false, .int .u8 k, .int .u8 1, .bool true, FV 0, .pointer (some ⟨(L0.b 0), 6, none⟩), undef, undef, undef, undef, undef, .tuple #[PV r, .bool true], PV z, PV z, PV (z * z), .tuple #[PV r, .bool true], PV r, .bool true, .tuple #[PV s, .bool true], PV z, .tuple #[PV s, .bool true], PV s, .bool true, undef, undef, undef, undef, undef, undef, undef, undef, undef, undef, undef, undef, undef, undef, undef, undef, undef, undef, undef, undef, undef, undef, undef, undef, undef, undef, undef, undef, undef, undef, undef, undef, undef, undef, undef, undef, undef, undef, undef, undef, undef]) (H' := fun L => [((L0.b 0), PC z), ((L5.b 7), PC r), (L.b 5, PC s)]) (by kernel_rfl) rfl rfl rfl (fun L => by kernel_rfl) (fun L => by kernel_rfl) hp6 ⟨
    ob_load (b := (L0.b 0)) (off := 0) (cs := PC z) (by kernel_rfl) (fun _ => rfl) rfl rfl (fun _ => by kernel_rfl) (fun _ _ hs => (seen_at (k := 0) hs rfl).cells) Tryd.underlying26 rfl (sizePC _),
    ob_call (vs := #[PV z]) (by kernel_rfl) (by kernel_rfl) (fun _ => rfl) rfl rfl (fun _ => by kernel_rfl) (fun w hb _ => by have e := fp2Sqrt K z w (K.stay hg hb) hH; rw [hs, hsi] at e; exact e),
    ob_move (fun _ => rfl) rfl rfl (fun _ => by kernel_rfl),
    ob_extract (vs := #[PV s, .bool true]) (fun _ => rfl) rfl rfl (fun _ => by kernel_rfl) rfl,
    ob_extract (vs := #[PV s, .bool true]) (fun _ => rfl) rfl rfl (fun _ => by kernel_rfl) rfl,
    ob_alloc (v := PV 0) (fun _ => rfl) rfl rfl zeroP rfl,
    ob_store (old := PC 0) (fun _ => rfl) rfl rfl (fun _ => by kernel_rfl) (fun _ => by kernel_rfl) rfl (sizePC _) (PC_one _) (le_len (PC_len _) (PC_len _) (by decide)) (splice_all ((PC_len _).trans (PC_len _).symm)).symm,
    ob_assign (fun _ => rfl) rfl rfl (fun _ => by kernel_rfl),
    trivial⟩ (fun L6 w7 hp7 => ?_)
  refine k9 _ _ ?_
  refine wp_seq_k (fun K10 k10 => ?_)
  refine draws (by kernel_rfl) (ks := [.det (.bool true), .det (.bool true), .det (PV r), .det (PV z), .det (.bool false), .det (.bool false), .det (PV r), .det (PV z), .det (PV y), .det (.bool true), .det (.bool true), .det (.bool true), .det (.bool true), .det (PV r), .det (.bool false), .det (.bool true), .det (.bool true), .det (.bool true), .det (.bool true), .det (.bool false), .det (.bool false), .det (PV s), .det (PV s), .det (PV z), .det (PV z), .det (.bool true), .det (.bool true), .det (.bool true), .det (.bool true), .det (PV z), .det (PV 0), .det (.bool false), .det (.bool false), .det (PV z), .det (.bool true), .det (PV z), .det (PV y), .det (.bool false), .det (.bool true), .det (.bool true), .det (.bool true), .det (.bool true)]) (T := [0, 1, 3, 3, 15, 31, 63, 63, 191, 511, 1023, 2047, 4095, 8191, 16383, 32767, 65535, 131071, 262143, 524287, 1048575, 2097151, 2097151, 8388607, 2097151, 33554431, 67108863, 134217727, 268435455, 536870911, 536870911, 2147483647, 4294967295, 8589934591, 17179869183, 8589934591, 68719476735, 137438953471, 274877906943, 549755813887, 1099511627775, 2199023255551]) (nt := 77) (nh := 3) (H := [((L0.b 0), PC z), ((L5.b 7), PC r), ((L6.b 5), PC s)]) (A := fun L => [PV x, .int .u8 k, .pointer (some ⟨(L0.b 0), 0, none⟩), undef, .bool true, .pointer (some ⟨(L5.b 7), 0, none⟩), .bool true, .pointer (some ⟨(L6.b 5), 0, none⟩), .bool true, .bool true, .bool false, PV x, .bool true, .bool false, .int .u8 k, .int .u8 1, .bool true, FV 0, .pointer (some ⟨(L0.b 0), 6, none⟩), undef, undef, undef, undef, undef, .tuple #[PV r, .bool true], PV z, PV z, PV (z * z), .tuple #[PV r, .bool true], PV r, .bool true, .tuple #[PV s, .bool true], PV z, .tuple #[PV s, .bool true], PV s, .bool true, .bool true, .bool true, PV r, PV z, .bool false, .bool false, PV r, PV z, PV y, .bool true, .bool true, .bool true, .bool true, PV r, .bool false, .bool true, .bool true, .bool true, .bool true, .bool false, .bool false, PV s, PV s, PV z, PV z, .bool true, .bool true, .bool true, .bool true, PV z, PV 0, .bool false, .bool false, PV z, .bool true, PV z, PV y, .bool false, .bool true, .bool true, .bool true]) (H' := fun L => [((L0.b 0), PC z), ((L5.b 7), PC r), ((L6.b 5), PC s)]) (by kernel_rfl) rfl rfl rfl (fun L => by kernel_rfl) (fun L => by kernel_rfl) hp7 ⟨
    ob_move (fun _ => rfl) rfl rfl (fun _ => by kernel_rfl),
    ob_move (fun _ => rfl) rfl rfl (fun _ => by kernel_rfl),
    ob_load (b := (L5.b 7)) (off := 0) (cs := PC r) (by kernel_rfl) (fun _ => by kernel_rfl) rfl rfl (fun _ => by kernel_rfl) (fun _ _ hs => (seen_at (k := 1) hs rfl).cells) Tryd.underlying26 rfl (sizePC _),
    ob_load (b := (L0.b 0)) (off := 0) (cs := PC z) (by kernel_rfl) (fun _ => by kernel_rfl) rfl rfl (fun _ => by kernel_rfl) (fun _ _ hs => (seen_at (k := 0) hs rfl).cells) Tryd.underlying26 rfl (sizePC _),
    ob_eq (u := PV r) (v := PV z) (fun _ => by kernel_rfl) rfl rfl (fun _ => by kernel_rfl) (fun _ => by kernel_rfl) (fun w => guardP _ _ _ _ _ w) (fun w => (eqlP _ _ w).trans (by rw [decide_eq_false (hrz)]; try rfl)),
    ob_move (fun _ => by kernel_rfl) rfl rfl (fun _ => by kernel_rfl),
    ob_load (b := (L5.b 7)) (off := 0) (cs := PC r) (by kernel_rfl) (fun _ => by kernel_rfl) rfl rfl (fun _ => by kernel_rfl) (fun _ _ hs => (seen_at (k := 1) hs rfl).cells) Tryd.underlying26 rfl (sizePC _),
    ob_load (b := (L0.b 0)) (off := 0) (cs := PC z) (by kernel_rfl) (fun _ => by kernel_rfl) rfl rfl (fun _ => by kernel_rfl) (fun _ _ hs => (seen_at (k := 0) hs rfl).cells) Tryd.underlying26 rfl (sizePC _),
    ob_call (vs := #[PV z]) (by kernel_rfl) (by kernel_rfl) (fun _ => by kernel_rfl) rfl rfl (fun _ => by kernel_rfl) (fun w hb _ => by have e := fp2Neg K z w (K.stay hg hb); rw [hy] at e; exact e),
    ob_eq (u := PV r) (v := PV y) (fun _ => by kernel_rfl) rfl rfl (fun _ => by kernel_rfl) (fun _ => by kernel_rfl) (fun w => guardP _ _ _ _ _ w) (fun w => (eqlP _ _ w).trans (by rw [decide_eq_true (hry)]; try rfl)),
    ob_pickF (fun _ => by kernel_rfl) rfl rfl (fun _ => by kernel_rfl) (fun _ => by kernel_rfl),
    ob_pickT (fun _ => rfl) rfl rfl (fun _ => by kernel_rfl) (fun _ => by kernel_rfl),
    ob_move (fun _ => rfl) rfl rfl (fun _ => by kernel_rfl),
    ob_load (b := (L5.b 7)) (off := 0) (cs := PC r) (by kernel_rfl) (fun _ => by kernel_rfl) rfl rfl (fun _ => by kernel_rfl) (fun _ _ hs => (seen_at (k := 1) hs rfl).cells) Tryd.underlying26 rfl (sizePC _),
    ob_call (vs := #[PV r]) (by kernel_rfl) (by kernel_rfl) (fun _ => by kernel_rfl) rfl rfl (fun _ => by kernel_rfl) (fun w hb _ => by have e := fp2Great K r w (K.stay hg hb); rw [hgr] at e; exact e),
    ob_not (b := false) (fun _ => by kernel_rfl) rfl rfl (fun _ => by kernel_rfl),
    ob_pickT (fun _ => rfl) rfl rfl (fun _ => by kernel_rfl) (fun _ => by kernel_rfl),
    ob_move (fun _ => rfl) rfl rfl (fun _ => by kernel_rfl),
    ob_move (fun _ => by kernel_rfl) rfl rfl (fun _ => by kernel_rfl),
    ob_not (b := true) (fun _ => by kernel_rfl) rfl rfl (fun _ => by kernel_rfl),
    ob_move (fun _ => by kernel_rfl) rfl rfl (fun _ => by kernel_rfl),
    ob_load (b := (L6.b 5)) (off := 0) (cs := PC s) (by kernel_rfl) (fun _ => by kernel_rfl) rfl rfl (fun _ => by kernel_rfl) (fun _ _ hs => (seen_at (k := 2) hs rfl).cells) Tryd.underlying26 rfl (sizePC _),
    ob_load (b := (L6.b 5)) (off := 0) (cs := PC s) (by kernel_rfl) (fun _ => by kernel_rfl) rfl rfl (fun _ => by kernel_rfl) (fun _ _ hs => (seen_at (k := 2) hs rfl).cells) Tryd.underlying26 rfl (sizePC _),
    ob_call (vs := #[PV s, PV s]) (by kernel_rfl) (by kernel_rfl) (fun _ => by kernel_rfl) rfl rfl (fun _ => by kernel_rfl) (fun w hb _ => by have e := fp2Mul K s s w (K.stay hg hb); rw [hss] at e; exact e),
    ob_load (b := (L0.b 0)) (off := 0) (cs := PC z) (by kernel_rfl) (fun _ => by kernel_rfl) rfl rfl (fun _ => by kernel_rfl) (fun _ _ hs => (seen_at (k := 0) hs rfl).cells) Tryd.underlying26 rfl (sizePC _),
    ob_eq (u := PV z) (v := PV z) (fun _ => by kernel_rfl) rfl rfl (fun _ => by kernel_rfl) (fun _ => by kernel_rfl) (fun w => guardP _ _ _ _ _ w) (fun w => (eqlP _ _ w).trans (by rw [decide_eq_true (rfl)]; try rfl)),
    ob_pickF (fun _ => by kernel_rfl) rfl rfl (fun _ => by kernel_rfl) (fun _ => by kernel_rfl),
    ob_pickT (fun _ => rfl) rfl rfl (fun _ => by kernel_rfl) (fun _ => by kernel_rfl),
    ob_move (fun _ => rfl) rfl rfl (fun _ => by kernel_rfl),
    ob_load (b := (L0.b 0)) (off := 0) (cs := PC z) (by kernel_rfl) (fun _ => by kernel_rfl) rfl rfl (fun _ => by kernel_rfl) (fun _ _ hs => (seen_at (k := 0) hs rfl).cells) Tryd.underlying26 rfl (sizePC _),
    ob_build (qs := #[]) (fun _ => by kernel_rfl) rfl rfl (fun _ => by kernel_rfl) buildP0,
    ob_eq (u := PV z) (v := PV 0) (fun _ => by kernel_rfl) rfl rfl (fun _ => by kernel_rfl) (fun _ => by kernel_rfl) (fun w => guardP _ _ _ _ _ w) (fun w => (eqlP _ _ w).trans (by rw [decide_eq_false (h0)]; try rfl)),
    ob_move (fun _ => by kernel_rfl) rfl rfl (fun _ => by kernel_rfl),
    ob_load (b := (L0.b 0)) (off := 0) (cs := PC z) (by kernel_rfl) (fun _ => by kernel_rfl) rfl rfl (fun _ => by kernel_rfl) (fun _ _ hs => (seen_at (k := 0) hs rfl).cells) Tryd.underlying26 rfl (sizePC _),
    ob_call (vs := #[PV z]) (by kernel_rfl) (by kernel_rfl) (fun _ => by kernel_rfl) rfl rfl (fun _ => by kernel_rfl) (fun w hb _ => by have e := fp2Great K z w (K.stay hg hb); rw [hgz] at e; exact e),
    ob_load (b := (L0.b 0)) (off := 0) (cs := PC z) (by kernel_rfl) (fun _ => by kernel_rfl) rfl rfl (fun _ => by kernel_rfl) (fun _ _ hs => (seen_at (k := 0) hs rfl).cells) Tryd.underlying26 rfl (sizePC _),
    ob_call (vs := #[PV z]) (by kernel_rfl) (by kernel_rfl) (fun _ => by kernel_rfl) rfl rfl (fun _ => by kernel_rfl) (fun w hb _ => by have e := fp2Neg K z w (K.stay hg hb); rw [hy] at e; exact e),
    ob_call (vs := #[PV y]) (by kernel_rfl) (by kernel_rfl) (fun _ => by kernel_rfl) rfl rfl (fun _ => by kernel_rfl) (fun w hb _ => by have e := fp2Great K y w (K.stay hg hb); rw [hgy] at e; exact e),
    ob_ne (u := .bool true) (v := .bool false) (fun _ => by kernel_rfl) rfl rfl (fun _ => by kernel_rfl) (fun _ => by kernel_rfl) (fun w => guardB _ _ _ _ _ _ w) (fun w => (neqB _ _ w).trans rfl),
    ob_pickF (fun _ => by kernel_rfl) rfl rfl (fun _ => by kernel_rfl) (fun _ => by kernel_rfl),
    ob_pickT (fun _ => rfl) rfl rfl (fun _ => by kernel_rfl) (fun _ => by kernel_rfl),
    ob_assign (fun _ => rfl) rfl rfl (fun _ => by kernel_rfl),
    trivial⟩ (fun L7 w8 hp8 => ?_)
  refine k10 _ _ ?_
  refine wp_ret ?_
  exact bodyPost_ret (v := .bool true) (res_t rfl (by kernel_rfl) _) rfl ⟨rfl, hp8.bel⟩
set_option maxHeartbeats 4000000 in
theorem sqsb4 {G : World → Prop} (K : FpK G) (R : RefK) (x z y r s : F2) (k : Int) (w : World) (hg : G w) (hH : ∀ w, G w → w.rangeAt 2 0 (FC hf)) (hB : ∀ w, G w → Calls Tryd.prog 7 #[] w (Ret (.bool true) w)) (kl : 0 ≤ k) (ku : k < 256) (hm : k % 4 = 1) (hz : (⟨x.c0, 0⟩ : F2) = z) (hr : (z * z).sq2 = r) (hri : (z * z).is2 = true) (hs : z.sq2 = s) (hsi : z.is2 = false) (hy : -z = y) (hgr : r.great = false) (hgz : z.great = true) (hgy : y.great = false) (h0 : z ≠ 0) (hrz : r ≠ z) (hry : r = y) : Calls Tryd.prog 6 #[PV x, .int .u8 k] w (Ret (.bool true) w) := by
  have hp0 := Heap.start w
  go_enter Tryd.func6, Tryd.ntmps6
  refine wp_seq_k (fun K1 k1 => ?_)
  refine goes (ks := [.alloc (PC x), .det (.bool false)]) (T := [0, 0]) (nt := 77) (nh := 0) (H := []) (A := fun L => [PV x, .int .u8 k, .pointer (some ⟨L.b 0, 0, none⟩), undef, .bool false, undef, undef, undef, undef, undef, undef, undef, undef, undef, undef, undef, undef, undef, undef, undef, undef, undef, undef, undef, undef, undef, undef, undef, undef, undef, undef, undef, undef, undef, undef, undef, undef, undef, undef, undef, undef, undef, undef, undef, undef, undef, undef, undef, undef, undef, undef, undef, undef, undef, undef, undef, undef, undef, undef, undef, undef, undef, undef, undef, undef, undef, undef, undef, undef, undef, undef, undef, undef, undef, undef, undef, undef]) (H' := fun L => [(L.b 0, PC x)]) (by kernel_rfl) rfl rfl rfl (fun L => by kernel_rfl) (fun L => by kernel_rfl) hp0 ⟨
    ob_box (v := PV x) (fun _ => rfl) rfl rfl (fun _ => by kernel_rfl) rfl,
    ob_assign (fun _ => rfl) rfl rfl (fun _ => by kernel_rfl),
    trivial⟩ (fun L0 w1 hp1 => ?_)
  refine k1 _ _ ?_
  refine wp_seq_k (fun K2 k2 => ?_)
  refine wp_seq_k (fun K3 k3 => ?_)
  refine goes (ks := [.det (.bool true), .det (.bool false)]) (T := [0, 1]) (nt := 77) (nh := 1) (H := [((L0.b 0), PC x)]) (A := fun L => [PV x, .int .u8 k, .pointer (some ⟨(L0.b 0), 0, none⟩), undef, .bool false, undef, undef, undef, undef, .bool true, .bool false, undef, undef, undef, undef, undef, undef, undef, undef, undef, undef, undef, undef, undef, undef, undef, undef, undef, undef, undef, undef, undef, undef, undef, undef, undef, undef, undef, undef, undef, undef, undef, undef, undef, undef, undef, undef, undef, undef, undef, undef, undef, undef, undef, undef, undef, undef, undef, undef, undef, undef, undef, undef, undef, undef, undef, undef, undef, undef, undef, undef, undef, undef, undef, undef, undef, undef]) (H' := fun L => [((L0.b 0), PC x)]) (by kernel_rfl) rfl rfl rfl (fun L => by kernel_rfl) (fun L => by kernel_rfl) hp1 ⟨
    ob_call (vs := #[]) (by kernel_rfl) (by kernel_rfl) (fun _ => rfl) rfl rfl (fun _ => by kernel_rfl) (fun w hb _ => hB w (K.stay hg hb)),
    ob_not (b := true) (fun _ => rfl) rfl rfl (fun _ => by kernel_rfl),
    trivial⟩ (fun L1 w2 hp2 => ?_)
  refine k3 _ _ ?_
  refine wp_cond_false (by kernel_rfl) ?_
  refine skips ?_
  refine k2 _ _ ?_
  refine wp_seq_k (fun K4 k4 => ?_)
  refine wp_seq_k (fun K5 k5 => ?_)
  refine goes (ks := [.det (PV x), .det (.bool true), .det (.bool false)]) (T := [0, 1, 3]) (nt := 77) (nh := 1) (H := [((L0.b 0), PC x)]) (A := fun L => [PV x, .int .u8 k, .pointer (some ⟨(L0.b 0), 0, none⟩), undef, .bool false, undef, undef, undef, undef, .bool true, .bool false, PV x, .bool true, .bool false, undef, undef, undef, undef, undef, undef, undef, undef, undef, undef, undef, undef, undef, undef, undef, undef, undef, undef, undef, undef, undef, undef, undef, undef, undef, undef, undef, undef, undef, undef, undef, undef, undef, undef, undef, undef, undef, undef, undef, undef, undef, undef, undef, undef, undef, undef, undef, undef, undef, undef, undef, undef, undef, undef, undef, undef, undef, undef, undef, undef, undef, undef, undef]) (H' := fun L => [((L0.b 0), PC x)]) (by kernel_rfl) rfl rfl rfl (fun L => by kernel_rfl) (fun L => by kernel_rfl) hp2 ⟨
    ob_load (b := (L0.b 0)) (off := 0) (cs := PC x) (by kernel_rfl) (fun _ => rfl) rfl rfl (fun _ => by kernel_rfl) (fun _ _ hs => (seen_at (k := 0) hs rfl).cells) Tryd.underlying26 rfl (sizePC _),
    ob_call (vs := #[PV x]) (by kernel_rfl) (by kernel_rfl) (fun _ => rfl) rfl rfl (fun _ => by kernel_rfl) (fun w _ _ => ref5MayP R _ w),
    ob_not (b := true) (fun _ => rfl) rfl rfl (fun _ => by kernel_rfl),
    trivial⟩ (fun L2 w3 hp3 => ?_)
  refine k5 _ _ ?_
  refine wp_cond_false (by kernel_rfl) ?_
  refine skips ?_
  refine k4 _ _ ?_
  refine wp_seq_k (fun K6 k6 => ?_)
  refine wp_seq_k (fun K7 k7 => ?_)
  refine goes (ks := [.det (.int .u8 k), .det (.int .u8 1), .det (.bool true)]) (T := [0, 1, 3]) (nt := 77) (nh := 1) (H := [((L0.b 0), PC x)]) (A := fun L => [PV x, .int .u8 k, .pointer (some ⟨(L0.b 0), 0, none⟩), undef, .bool false, undef, undef, undef, undef, .bool true, .bool false, PV x, .bool true, .bool false, .int .u8 k, .int .u8 1, .bool true, undef, undef, undef, undef, undef, undef, undef, undef, undef, undef, undef, undef, undef, undef, undef, undef, undef, undef, undef, undef, undef, undef, undef, undef, undef, undef, undef, undef, undef, undef, undef, undef, undef, undef, undef, undef, undef, undef, undef, undef, undef, undef, undef, undef, undef, undef, undef, undef, undef, undef, undef, undef, undef, undef, undef, undef, undef, undef, undef, undef]) (H' := fun L => [((L0.b 0), PC x)]) (by kernel_rfl) rfl rfl rfl (fun L => by kernel_rfl) (fun L => by kernel_rfl) hp3 ⟨
    ob_move (fun _ => rfl) rfl rfl (fun _ => by kernel_rfl),
    ob_bin (u := .int .u8 k) (v := .int .u8 4) (fun _ => rfl) rfl rfl (fun _ => by kernel_rfl) (fun _ => by kernel_rfl) (fun w => guardI _ _ _ _ _ _ _ _ w) (fun w => rem4 _ _ _ kl ku hm w),
    ob_eq (u := .int .u8 1) (v := .int .u8 1) (fun _ => rfl) rfl rfl (fun _ => by kernel_rfl) (fun _ => by kernel_rfl) (fun w => guardI _ _ _ _ _ _ _ _ w) (fun w => (eqlI _ _ _ _ w).trans rfl),
    trivial⟩ (fun L3 w4 hp4 => ?_)
  refine k7 _ _ ?_
  refine wp_cond_true (by kernel_rfl) ?_
  refine goes (ks := [.det (FV 0), .det (.pointer (some ⟨(L0.b 0), 6, none⟩)), .store (.base 0) 6 (FC 0) (PC z)]) (T := [0, 1, 3]) (nt := 77) (nh := 1) (H := [((L0.b 0), PC x)]) (A := fun L => [PV x, .int .u8 k, .pointer (some ⟨(L0.b 0), 0, none⟩), undef, .bool false, undef, undef, undef, undef, .bool true, .bool false, PV x, .bool true, .bool false, .int .u8 k, .int .u8 1, .bool true, FV 0, .pointer (some ⟨(L0.b 0), 6, none⟩), undef, undef, undef, undef, undef, undef, undef, undef, undef, undef, undef, undef, undef, undef, undef, undef, undef, undef, undef, undef, undef, undef, undef, undef, undef, undef, undef, undef, undef, undef, undef, undef, undef, undef, undef, undef, undef, undef, undef, undef, undef, undef, undef, undef, undef, undef, undef, undef, undef, undef, undef, undef, undef, undef, undef, undef, undef, undef]) (H' := fun L => [((L0.b 0), PC z)]) (by kernel_rfl) rfl rfl rfl (fun L => by kernel_rfl) (fun L => by kernel_rfl) hp4 ⟨
    ob_build (qs := #[]) (fun _ => rfl) rfl rfl (fun _ => by kernel_rfl) buildF0,
    ob_index (b := (L0.b 0)) (off := 0) (k := 1) (sz := 6) (n := 2) (fun _ => rfl) rfl rfl (fun _ => by kernel_rfl) (fun _ => by kernel_rfl) Tryd.underlying26 sizeF (by decide) rfl,
    ob_store (old := PC x) (fun _ => rfl) rfl rfl (fun _ => by kernel_rfl) (fun _ => by kernel_rfl) rfl (sizeFC _) (FC_one _) (le_len (FC_len _) (PC_len _) (by decide)) (by subst hz; rfl),
    trivial⟩ (fun L4 w5 hp5 => ?_)
  refine k6 _ _ ?_
  refine wp_seq_k (fun K8 k8 => ?_)
  refine goes (ks := [.det (PV z), .det (PV z), .det (PV (z * z)), .det (.tuple #[PV r, .bool true]), .det (.tuple #[PV r, .bool true]), .det (PV r), .det (.bool true), .alloc (PC 0), .store (.new 7) 0 (PC r) (PC r), .det (.bool true)]) (T := [0, 0, 3, 7, 15, 31, 31, 0, 191, 511]) (nt := 77) (nh := 1) (H := [((L0.b 0), PC z)]) (A := fun L => [PV x, .int .u8 k, .pointer (some ⟨(L0.b 0), 0, none⟩), undef, .bool false, .pointer (some ⟨L.b 7, 0, none⟩), .bool true, undef, undef, .bool true, .bool false, PV x, .bool true, .bool false, .int .u8 k, .int .u8 1, .bool true, FV 0, .pointer (some ⟨(L0.b 0), 6, none⟩), undef, undef, undef, undef, undef, .tuple #[PV r, .bool true], PV z, PV z, PV (z * z), .tuple #[PV r, .bool true], PV r, .bool true, undef, undef, undef, undef, undef, undef, undef, undef, undef, undef, undef, undef, undef, undef, undef, undef, undef, undef, undef, undef, undef, undef, undef, undef, undef, undef, undef, undef, undef, undef, undef, undef, undef, undef, undef, undef, undef, undef, undef, undef, undef, undef, undef, undef, undef, undef]) (H' := fun L => [((L0.b 0), PC z), (L.b 7, PC r)]) (by kernel_rfl) rfl rfl rfl (fun L => by kernel_rfl) (fun L => by kernel_rfl) hp5 ⟨
    ob_load (b := (L0.b 0)) (off := 0) (cs := PC z) (by kernel_rfl) (fun _ => rfl) rfl rfl (fun _ => by kernel_rfl) (fun _ _ hs => (seen_at (k := 0) hs rfl).cells) Tryd.underlying26 rfl (sizePC _),
    ob_load (b := (L0.b 0)) (off := 0) (cs := PC z) (by kernel_rfl) (fun _ => rfl) rfl rfl (fun _ => by kernel_rfl) (fun _ _ hs => (seen_at (k := 0) hs rfl).cells) Tryd.underlying26 rfl (sizePC _),
    ob_call (vs := #[PV z, PV z]) (by kernel_rfl) (by kernel_rfl) (fun _ => rfl) rfl rfl (fun _ => by kernel_rfl) (fun w hb _ => fp2Mul K _ _ w (K.stay hg hb)),
    ob_call (vs := #[PV (z * z)]) (by kernel_rfl) (by kernel_rfl) (fun _ => rfl) rfl rfl (fun _ => by kernel_rfl) (fun w hb _ => by have e := fp2Sqrt K (z * z) w (K.stay hg hb) hH; rw [hr, hri] at e; exact e),
    ob_move (fun _ => rfl) rfl rfl (fun _ => by kernel_rfl),
    ob_extract (vs := #[PV r, .bool true]) (fun _ => rfl) rfl rfl (fun _ => by kernel_rfl) rfl,
    ob_extract (vs := #[PV r, .bool true]) (fun _ => rfl) rfl rfl (fun _ => by kernel_rfl) rfl,
    ob_alloc (v := PV 0) (fun _ => rfl) rfl rfl zeroP rfl,
    ob_store (old := PC 0) (fun _ => rfl) rfl rfl (fun _ => by kernel_rfl) (fun _ => by kernel_rfl) rfl (sizePC _) (PC_one _) (le_len (PC_len _) (PC_len _) (by decide)) (splice_all ((PC_len _).trans (PC_len _).symm)).symm,
    ob_assign (fun _ => rfl) rfl rfl (fun _ => by kernel_rfl),
    trivial⟩ (fun L5 w6 hp6 => ?_)
  refine k8 _ _ ?_
  refine wp_seq_k (fun K9 k9 => ?_)
  refine goes (ks := [.det (PV z), .det (.tuple #[PV s, .bool false]), .det (.tuple #[PV s, .bool false]), .det (PV s), .det (.bool false), .alloc (PC 0), .store (.new 5) 0 (PC s) (PC s), .det (.bool false)]) (T := [0, 1, 3, 7, 7, 0, 47, 127]) (nt := 77) (nh := 2) (H := [((L0.b 0), PC z), ((L5.b 7), PC r)]) (A := fun L => [PV x, .int .u8 k, .pointer (some ⟨(L0.b 0), 0, none⟩), undef, .bool false, .pointer (some ⟨(L5.b 7), 0, none⟩), .bool true, .pointer (some ⟨L.b 5, 0, none⟩), .bool false, .bool true, .bool false, PV x, .bool true, .bool false, .int .u8 k, .int .u8 1, .bool true, FV 0, .pointer (some ⟨(L0.b 0), 6, none⟩), undef, undef, undef, undef, undef, .tuple #[PV r, .bool true], PV z, PV z, PV (z * z), .tuple #[PV r, .bool true], PV r, .bool true, .tuple #[PV s, .bool false], PV z, .tuple #[PV s, .bool false], PV s, .bool false, undef, undef, undef, undef, undef, undef, undef, undef, undef, undef, undef, undef, undef, undef, undef, undef, undef, undef, undef, undef, undef, undef, undef, undef, undef, undef, undef, undef, undef, undef, undef, undef, undef, undef, undef, undef, undef, undef, undef, undef, undef]) (H' := fun L => [((L0.b 0), PC z), ((L5.b 7), PC r), (L.b 5, PC s)]) (by kernel_rfl) rfl rfl rfl (fun L => by kernel_rfl) (fun L => by kernel_rfl) hp6 ⟨
    ob_load (b := (L0.b 0)) (off := 0) (cs := PC z) (by kernel_rfl) (fun _ => rfl) rfl rfl (fun _ => by kernel_rfl) (fun _ _ hs => (seen_at (k := 0) hs rfl).cells) Tryd.underlying26 rfl (sizePC _),
    ob_call (vs := #[PV z]) (by kernel_rfl) (by kernel_rfl) (fun _ => rfl) rfl rfl (fun _ => by kernel_rfl) (fun w hb _ => by have e := fp2Sqrt K z w (K.stay hg hb) hH; rw [hs, hsi] at e; exact e),
    ob_move (fun _ => rfl) rfl rfl (fun _ => by kernel_rfl),
    ob_extract (vs := #[PV s, .bool false]) (fun _ => rfl) rfl rfl (fun _ => by kernel_rfl) rfl,
    ob_extract (vs := #[PV s, .bool false]) (fun _ => rfl) rfl rfl (fun _ => by kernel_rfl) rfl,
    ob_alloc (v := PV 0) (fun _ => rfl) rfl rfl zeroP rfl,
    ob_store (old := PC 0) (fun _ => rfl) rfl rfl (fun _ => by kernel_rfl) (fun _ => by kernel_rfl) rfl (sizePC _) (PC_one _) (le_len (PC_len _) (PC_len _) (by decide)) (splice_all ((PC_len _).trans (PC_len _).symm)).symm,
    ob_assign (fun _ => rfl) rfl rfl (fun _ => by kernel_rfl),
    trivial⟩ (fun L6 w7 hp7 => ?_)
  refine k9 _ _ ?_
  refine wp_seq_k (fun K10 k10 => ?_)
  refine draws (by kernel_rfl) (ks := [.det (.bool true), .det (.bool true), .det (PV r), .det (PV z), .det (.bool false), .det (.bool false), .det (PV r), .det (PV z), .det (PV y), .det (.bool true), .det (.bool true), .det (.bool true), .det (.bool true), .det (PV r), .det (.bool false), .det (.bool true), .det (.bool true), .det (.bool true), .det (.bool false), .det (.bool true), .det (.bool true), .det undef, .det undef, .det undef, .det undef, .det undef, .det (.bool true), .det (.bool true), .det (.bool true), .det (PV z), .det (PV 0), .det (.bool false), .det (.bool false), .det (PV z), .det (.bool true), .det (PV z), .det (PV y), .det (.bool false), .det (.bool true), .det (.bool true), .det (.bool true), .det (.bool true)]) (T := [0, 1, 3, 3, 15, 31, 63, 63, 191, 511, 1023, 2047, 4095, 8191, 16383, 32767, 65535, 131071, 262143, 524287, 1048575, 2097151, 2097151, 8388607, 2097151, 33554431, 67108863, 134217727, 268435455, 536870911, 536870911, 2147483647, 4294967295, 8589934591, 17179869183, 8589934591, 68719476735, 137438953471, 274877906943, 549755813887, 1099511627775, 2199023255551]) (nt := 77) (nh := 3) (H := [((L0.b 0), PC z), ((L5.b 7), PC r), ((L6.b 5), PC s)]) (A := fun L => [PV x, .int .u8 k, .pointer (some ⟨(L0.b 0), 0, none⟩), undef, .bool true, .pointer (some ⟨(L5.b 7), 0, none⟩), .bool true, .pointer (some ⟨(L6.b 5), 0, none⟩), .bool false, .bool true, .bool false, PV x, .bool true, .bool false, .int .u8 k, .int .u8 1, .bool true, FV 0, .pointer (some ⟨(L0.b 0), 6, none⟩), undef, undef, undef, undef, undef, .tuple #[PV r, .bool true], PV z, PV z, PV (z * z), .tuple #[PV r, .bool true], PV r, .bool true, .tuple #[PV s, .bool false], PV z, .tuple #[PV s, .bool false], PV s, .bool false, .bool true, .bool true, PV r, PV z, .bool false, .bool false, PV r, PV z, PV y, .bool true, .bool true, .bool true, .bool true, PV r, .bool false, .bool true, .bool true, .bool true, .bool false, .bool true, .bool true, undef, undef, undef, undef, undef, .bool true, .bool true, .bool true, PV z, PV 0, .bool false, .bool false, PV z, .bool true, PV z, PV y, .bool false, .bool true, .bool true, .bool true]) (H' := fun L => [((L0.b 0), PC z), ((L5.b 7), PC r), ((L6.b 5), PC s)]) (by kernel_rfl) rfl rfl rfl (fun L => by kernel_rfl) (fun L => by kernel_rfl) hp7 ⟨
    ob_move (fun _ => rfl) rfl rfl (fun _ => by kernel_rfl),
    ob_move (fun _ => rfl) rfl rfl (fun _ => by kernel_rfl),
    ob_load (b := (L5.b 7)) (off := 0) (cs := PC r) (by kernel_rfl) (fun _ => by kernel_rfl) rfl rfl (fun _ => by kernel_rfl) (fun _ _ hs => (seen_at (k := 1) hs rfl).cells) Tryd.underlying26 rfl (sizePC _),
    ob_load (b := (L0.b 0)) (off := 0) (cs := PC z) (by kernel_rfl) (fun _ => by kernel_rfl) rfl rfl (fun _ => by kernel_rfl) (fun _ _ hs => (seen_at (k := 0) hs rfl).cells) Tryd.underlying26 rfl (sizePC _),
    ob_eq (u := PV r) (v := PV z) (fun _ => by kernel_rfl) rfl rfl (fun _ => by kernel_rfl) (fun _ => by kernel_rfl) (fun w => guardP _ _ _ _ _ w) (fun w => (eqlP _ _ w).trans (by rw [decide_eq_false (hrz)]; try rfl)),
    ob_move (fun _ => by kernel_rfl) rfl rfl (fun _ => by kernel_rfl),
    ob_load (b := (L5.b 7)) (off := 0) (cs := PC r) (by kernel_rfl) (fun _ => by kernel_rfl) rfl rfl (fun _ => by kernel_rfl) (fun _ _ hs => (seen_at (k := 1) hs rfl).cells) Tryd.underlying26 rfl (sizePC _),
    ob_load (b := (L0.b 0)) (off := 0) (cs := PC z) (by kernel_rfl) (fun _ => by kernel_rfl) rfl rfl (fun _ => by kernel_rfl) (fun _ _ hs => (seen_at (k := 0) hs rfl).cells) Tryd.underlying26 rfl (sizePC _),
    ob_call (vs := #[PV z]) (by kernel_rfl) (by kernel_rfl) (fun _ => by kernel_rfl) rfl rfl (fun _ => by kernel_rfl) (fun w hb _ => by have e := fp2Neg K z w (K.stay hg hb); rw [hy] at e; exact e),
    ob_eq (u := PV r) (v := PV y) (fun _ => by kernel_rfl) rfl rfl (fun _ => by kernel_rfl) (fun _ => by kernel_rfl) (fun w => guardP _ _ _ _ _ w) (fun w => (eqlP _ _ w).trans (by rw [decide_eq_true (hry)]; try rfl)),
    ob_pickF (fun _ => by kernel_rfl) rfl rfl (fun _ => by kernel_rfl) (fun _ => by kernel_rfl),
    ob_pickT (fun _ => rfl) rfl rfl (fun _ => by kernel_rfl) (fun _ => by kernel_rfl),
    ob_move (fun _ => rfl) rfl rfl (fun _ => by kernel_rfl),
    ob_load (b := (L5.b 7)) (off := 0) (cs := PC r) (by kernel_rfl) (fun _ => by kernel_rfl) rfl rfl (fun _ => by kernel_rfl) (fun _ _ hs => (seen_at (k := 1) hs rfl).cells) Tryd.underlying26 rfl (sizePC _),
    ob_call (vs := #[PV r]) (by kernel_rfl) (by kernel_rfl) (fun _ => by kernel_rfl) rfl rfl (fun _ => by kernel_rfl) (fun w hb _ => by have e := fp2Great K r w (K.stay hg hb); rw [hgr] at e; exact e),
    ob_not (b := false) (fun _ => by kernel_rfl) rfl rfl (fun _ => by kernel_rfl),
    ob_pickT (fun _ => rfl) rfl rfl (fun _ => by kernel_rfl) (fun _ => by kernel_rfl),
    ob_move (fun _ => rfl) rfl rfl (fun _ => by kernel_rfl),
    ob_move (fun _ => by kernel_rfl) rfl rfl (fun _ => by kernel_rfl),
    ob_not (b := false) (fun _ => by kernel_rfl) rfl rfl (fun _ => by kernel_rfl),
    ob_move (fun _ => by kernel_rfl) rfl rfl (fun _ => by kernel_rfl),
    ob_skip (fun _ => by kernel_rfl) rfl,
    ob_skip (fun _ => by kernel_rfl) rfl,
    ob_skip (fun _ => by kernel_rfl) rfl,
    ob_skip (fun _ => by kernel_rfl) rfl,
    ob_skip (fun _ => by kernel_rfl) rfl,
    ob_pickT (fun _ => by kernel_rfl) rfl rfl (fun _ => by kernel_rfl) (fun _ => by kernel_rfl),
    ob_pickT (fun _ => rfl) rfl rfl (fun _ => by kernel_rfl) (fun _ => by kernel_rfl),
    ob_move (fun _ => rfl) rfl rfl (fun _ => by kernel_rfl),
    ob_load (b := (L0.b 0)) (off := 0) (cs := PC z) (by kernel_rfl) (fun _ => by kernel_rfl) rfl rfl (fun _ => by kernel_rfl) (fun _ _ hs => (seen_at (k := 0) hs rfl).cells) Tryd.underlying26 rfl (sizePC _),
    ob_build (qs := #[]) (fun _ => by kernel_rfl) rfl rfl (fun _ => by kernel_rfl) buildP0,
    ob_eq (u := PV z) (v := PV 0) (fun _ => by kernel_rfl) rfl rfl (fun _ => by kernel_rfl) (fun _ => by kernel_rfl) (fun w => guardP _ _ _ _ _ w) (fun w => (eqlP _ _ w).trans (by rw [decide_eq_false (h0)]; try rfl)),
    ob_move (fun _ => by kernel_rfl) rfl rfl (fun _ => by kernel_rfl),
    ob_load (b := (L0.b 0)) (off := 0) (cs := PC z) (by kernel_rfl) (fun _ => by kernel_rfl) rfl rfl (fun _ => by kernel_rfl) (fun _ _ hs => (seen_at (k := 0) hs rfl).cells) Tryd.underlying26 rfl (sizePC _),
    ob_call (vs := #[PV z]) (by kernel_rfl) (by kernel_rfl) (fun _ => by kernel_rfl) rfl rfl (fun _ => by kernel_rfl) (fun w hb _ => by have e := fp2Great K z w (K.stay hg hb); rw [hgz] at e; exact e),
    ob_load (b := (L0.b 0)) (off := 0) (cs := PC z) (by kernel_rfl) (fun _ => by kernel_rfl) rfl rfl (fun _ => by kernel_rfl) (fun _ _ hs => (seen_at (k := 0) hs rfl).cells) Tryd.underlying26 rfl (sizePC _),
    ob_call (vs := #[PV z]) (by kernel_rfl) (by kernel_rfl) (fun _ => by kernel_rfl) rfl rfl (fun _ => by kernel_rfl) (fun w hb _ => by have e := fp2Neg K z w (K.stay hg hb); rw [hy] at e; exact e),
    ob_call (vs := #[PV y]) (by kernel_rfl) (by kernel_rfl) (fun _ => by kernel_rfl) rfl rfl (fun _ => by kernel_rfl) (fun w hb _ => by have e := fp2Great K y w (K.stay hg hb); rw [hgy] at e; exact e),
    ob_ne (u := .bool true) (v := .bool false) (fun _ => by kernel_rfl) rfl rfl (fun _ => by kernel_rfl) (fun _ => by kernel_rfl) (fun w => guardB _ _ _ _ _ _ w) (fun w => (neqB _ _ w).trans rfl),
    ob_pickF (fun _ => by kernel_rfl) rfl rfl (fun _ => by kernel_rfl) (fun _ => by kernel_rfl),
    ob_pickT (fun _ => rfl) rfl rfl (fun _ => by kernel_rfl) (fun _ => by kernel_rfl),
    ob_assign (fun _ => rfl) rfl rfl (fun _ => by kernel_rfl),
    trivial⟩ (fun L7 w8 hp8 => ?_)
  refine k10 _ _ ?_
  refine wp_ret ?_
  exact bodyPost_ret (v := .bool true) (res_t rfl (by kernel_rfl) _) rfl ⟨rfl, hp8.bel⟩
end Go.Proofs.YtgoghcmnnhglhaaDoor.fpn
