/- IB JC II IH. -/
import Derived.Test.YtgoghcmnnhglhaaDoorB2
import Derived.Test.YtgoghcmnnhglhaaDoorB3
import Derived.Deep.LoopGhost
/- The reference's pairs. -/
namespace Go.Proofs.YtgoghcmnnhglhaaDoor.fpn
open Go.RowKit Pl
set_option linter.unusedVariables false
set_option linter.unusedSimpArgs false
set_option maxRecDepth 4000

set_option maxHeartbeats 4000000 in
theorem ref5Sub2 (R : RefK) (x y : F2) (w : World) : Calls Tryd.prog 15 #[PV x, PV y] w (Ret (PV (x - y)) w) := by
  have hp0 := Heap.start w
  go_enter Tryd.func15, Tryd.ntmps15
  refine wp_seq_k (fun K1 k1 => ?_)
  refine goes (ks := [.alloc (PC x), .alloc (PC y), .alloc (PC 0)]) (T := [0, 0, 0]) (nt := 16) (nh := 0) (H := []) (A := fun L => [PV x, PV y, .pointer (some ⟨L.b 0, 0, none⟩), .pointer (some ⟨L.b 1, 0, none⟩), .pointer (some ⟨L.b 2, 0, none⟩), undef, undef, undef, undef, undef, undef, undef, undef, undef, undef, undef]) (H' := fun L => [(L.b 0, PC x), (L.b 1, PC y), (L.b 2, PC 0)]) (by kernel_rfl) rfl rfl rfl (fun L => by kernel_rfl) (fun L => by kernel_rfl) hp0 ⟨
    ob_box (v := PV x) (fun _ => rfl) rfl rfl (fun _ => by kernel_rfl) rfl,
    ob_box (v := PV y) (fun _ => rfl) rfl rfl (fun _ => by kernel_rfl) rfl,
    ob_alloc (v := PV 0) (fun _ => rfl) rfl rfl zeroP rfl,
    trivial⟩ (fun L0 w1 hp1 => ?_)
  refine k1 _ _ ?_
  refine wp_seq_k (fun K2 k2 => ?_)
  refine draws (by kernel_rfl) (ks := [.det (.pointer (some ⟨(L0.b 0), 0, none⟩)), .det (FV x.c0), .det (.pointer (some ⟨(L0.b 1), 0, none⟩)), .det (FV y.c0), .det (FV ((x.c0 - y.c0))), .det (.pointer (some ⟨(L0.b 0), 6, none⟩)), .det (FV x.c1), .det (.pointer (some ⟨(L0.b 1), 6, none⟩)), .det (FV y.c1), .det (FV ((x.c1 - y.c1))), .det (PV (⟨(x.c0 - y.c0), (x.c1 - y.c1)⟩)), .store (.base 2) 0 (PC (⟨(x.c0 - y.c0), (x.c1 - y.c1)⟩)) (PC (⟨(x.c0 - y.c0), (x.c1 - y.c1)⟩))]) (T := [0, 1, 0, 4, 15, 0, 32, 0, 128, 511, 1023, 2047]) (nt := 16) (nh := 3) (H := [((L0.b 0), PC x), ((L0.b 1), PC y), ((L0.b 2), PC 0)]) (A := fun L => [PV x, PV y, .pointer (some ⟨(L0.b 0), 0, none⟩), .pointer (some ⟨(L0.b 1), 0, none⟩), .pointer (some ⟨(L0.b 2), 0, none⟩), .pointer (some ⟨(L0.b 0), 0, none⟩), FV x.c0, .pointer (some ⟨(L0.b 1), 0, none⟩), FV y.c0, FV ((x.c0 - y.c0)), .pointer (some ⟨(L0.b 0), 6, none⟩), FV x.c1, .pointer (some ⟨(L0.b 1), 6, none⟩), FV y.c1, FV ((x.c1 - y.c1)), PV (⟨(x.c0 - y.c0), (x.c1 - y.c1)⟩)]) (H' := fun L => [((L0.b 0), PC x), ((L0.b 1), PC y), ((L0.b 2), PC (⟨(x.c0 - y.c0), (x.c1 - y.c1)⟩))]) (by kernel_rfl) rfl rfl rfl (fun L => by kernel_rfl) (fun L => by kernel_rfl) hp1 ⟨
    ob_index (b := (L0.b 0)) (off := 0) (k := 0) (sz := 6) (n := 2) (fun _ => rfl) rfl rfl (fun _ => by kernel_rfl) (fun _ => by kernel_rfl) Tryd.underlying26 sizeF (by decide) rfl,
    ob_load (b := (L0.b 0)) (off := 0) (cs := FC x.c0) (by kernel_rfl) (fun _ => rfl) rfl rfl (fun _ => by kernel_rfl) (fun _ _ hs => partF2_0 (seen_at (k := 0) hs rfl)) Tryd.underlying24 rfl (sizeFC _),
    ob_index (b := (L0.b 1)) (off := 0) (k := 0) (sz := 6) (n := 2) (fun _ => rfl) rfl rfl (fun _ => by kernel_rfl) (fun _ => by kernel_rfl) Tryd.underlying26 sizeF (by decide) rfl,
    ob_load (b := (L0.b 1)) (off := 0) (cs := FC y.c0) (by kernel_rfl) (fun _ => rfl) rfl rfl (fun _ => by kernel_rfl) (fun _ _ hs => partF2_0 (seen_at (k := 1) hs rfl)) Tryd.underlying24 rfl (sizeFC _),
    ob_call (vs := #[FV x.c0, FV y.c0]) (by kernel_rfl) (by kernel_rfl) (fun _ => rfl) rfl rfl (fun _ => by kernel_rfl) (fun w _ _ => R.sub _ _ w trivial),
    ob_index (b := (L0.b 0)) (off := 0) (k := 1) (sz := 6) (n := 2) (fun _ => rfl) rfl rfl (fun _ => by kernel_rfl) (fun _ => by kernel_rfl) Tryd.underlying26 sizeF (by decide) rfl,
    ob_load (b := (L0.b 0)) (off := 6) (cs := FC x.c1) (by kernel_rfl) (fun _ => rfl) rfl rfl (fun _ => by kernel_rfl) (fun _ _ hs => partF2_1 (seen_at (k := 0) hs rfl)) Tryd.underlying24 rfl (sizeFC _),
    ob_index (b := (L0.b 1)) (off := 0) (k := 1) (sz := 6) (n := 2) (fun _ => rfl) rfl rfl (fun _ => by kernel_rfl) (fun _ => by kernel_rfl) Tryd.underlying26 sizeF (by decide) rfl,
    ob_load (b := (L0.b 1)) (off := 6) (cs := FC y.c1) (by kernel_rfl) (fun _ => rfl) rfl rfl (fun _ => by kernel_rfl) (fun _ _ hs => partF2_1 (seen_at (k := 1) hs rfl)) Tryd.underlying24 rfl (sizeFC _),
    ob_call (vs := #[FV x.c1, FV y.c1]) (by kernel_rfl) (by kernel_rfl) (fun _ => rfl) rfl rfl (fun _ => by kernel_rfl) (fun w _ _ => R.sub _ _ w trivial),
    ob_build (qs := #[(0, FV ((x.c0 - y.c0))), (1, FV ((x.c1 - y.c1)))]) (fun _ => rfl) rfl rfl (fun _ => by kernel_rfl) (buildP _ _),
    ob_store (old := PC 0) (fun _ => rfl) rfl rfl (fun _ => by kernel_rfl) (fun _ => by kernel_rfl) rfl (sizePC _) (PC_one _) (le_len (PC_len _) (PC_len _) (by decide)) (splice_all ((PC_len _).trans (PC_len _).symm)).symm,
    trivial⟩ (fun L1 w2 hp2 => ?_)
  refine k2 _ _ ?_
  refine wp_ret ?_
  exact bodyPost_ret (v := PV (⟨(x.c0 - y.c0), (x.c1 - y.c1)⟩)) (res_c rfl (by kernel_rfl) (hp2.bound 2 rfl).2 Tryd.underlying26 rfl (sizePC _)) rfl ⟨rfl, hp2.bel⟩
set_option maxHeartbeats 4000000 in
theorem ref5Neg2 (R : RefK) (x : F2) (w : World) : Calls Tryd.prog 17 #[PV x] w (Ret (PV (-x)) w) := by
  have hp0 := Heap.start w
  go_enter Tryd.func17, Tryd.ntmps17
  refine wp_seq_k (fun K1 k1 => ?_)
  refine goes (ks := [.alloc (PC x), .alloc (PC 0)]) (T := [0, 0]) (nt := 6) (nh := 0) (H := []) (A := fun L => [PV x, .pointer (some ⟨L.b 0, 0, none⟩), .pointer (some ⟨L.b 1, 0, none⟩), undef, undef, undef]) (H' := fun L => [(L.b 0, PC x), (L.b 1, PC 0)]) (by kernel_rfl) rfl rfl rfl (fun L => by kernel_rfl) (fun L => by kernel_rfl) hp0 ⟨
    ob_box (v := PV x) (fun _ => rfl) rfl rfl (fun _ => by kernel_rfl) rfl,
    ob_alloc (v := PV 0) (fun _ => rfl) rfl rfl zeroP rfl,
    trivial⟩ (fun L0 w1 hp1 => ?_)
  refine k1 _ _ ?_
  refine wp_seq_k (fun K2 k2 => ?_)
  refine goes (ks := [.det (PV 0), .det (PV x), .det (PV ((0 - x))), .store (.base 1) 0 (PC ((0 - x))) (PC ((0 - x)))]) (T := [0, 0, 3, 7]) (nt := 6) (nh := 2) (H := [((L0.b 0), PC x), ((L0.b 1), PC 0)]) (A := fun L => [PV x, .pointer (some ⟨(L0.b 0), 0, none⟩), .pointer (some ⟨(L0.b 1), 0, none⟩), PV 0, PV x, PV ((0 - x))]) (H' := fun L => [((L0.b 0), PC x), ((L0.b 1), PC ((0 - x)))]) (by kernel_rfl) rfl rfl rfl (fun L => by kernel_rfl) (fun L => by kernel_rfl) hp1 ⟨
    ob_build (qs := #[]) (fun _ => rfl) rfl rfl (fun _ => by kernel_rfl) buildP0,
    ob_load (b := (L0.b 0)) (off := 0) (cs := PC x) (by kernel_rfl) (fun _ => rfl) rfl rfl (fun _ => by kernel_rfl) (fun _ _ hs => (seen_at (k := 0) hs rfl).cells) Tryd.underlying26 rfl (sizePC _),
    ob_call (vs := #[PV 0, PV x]) (by kernel_rfl) (by kernel_rfl) (fun _ => rfl) rfl rfl (fun _ => by kernel_rfl) (fun w _ _ => ref5Sub2 R _ _ w),
    ob_store (old := PC 0) (fun _ => rfl) rfl rfl (fun _ => by kernel_rfl) (fun _ => by kernel_rfl) rfl (sizePC _) (PC_one _) (le_len (PC_len _) (PC_len _) (by decide)) (splice_all ((PC_len _).trans (PC_len _).symm)).symm,
    trivial⟩ (fun L1 w2 hp2 => ?_)
  refine k2 _ _ ?_
  refine wp_ret ?_
  exact bodyPost_ret (v := PV ((0 - x))) (res_c rfl (by kernel_rfl) (hp2.bound 1 rfl).2 Tryd.underlying26 rfl (sizePC _)) rfl ⟨congrArg (fun z => Ending.returned (PV z)) (F2.ext' (by simp; grind) (by simp; grind)), hp2.bel⟩
set_option maxHeartbeats 4000000 in
theorem ref5Mul2 (R : RefK) (x y : F2) (w : World) : Calls Tryd.prog 19 #[PV x, PV y] w (Ret (PV (x * y)) w) := by
  have hp0 := Heap.start w
  go_enter Tryd.func19, Tryd.ntmps19
  refine wp_seq_k (fun K1 k1 => ?_)
  refine goes (ks := [.alloc (PC x), .alloc (PC y), .alloc (PC 0)]) (T := [0, 0, 0]) (nt := 32) (nh := 0) (H := []) (A := fun L => [PV x, PV y, .pointer (some ⟨L.b 0, 0, none⟩), .pointer (some ⟨L.b 1, 0, none⟩), .pointer (some ⟨L.b 2, 0, none⟩), undef, undef, undef, undef, undef, undef, undef, undef, undef, undef, undef, undef, undef, undef, undef, undef, undef, undef, undef, undef, undef, undef, undef, undef, undef, undef, undef]) (H' := fun L => [(L.b 0, PC x), (L.b 1, PC y), (L.b 2, PC 0)]) (by kernel_rfl) rfl rfl rfl (fun L => by kernel_rfl) (fun L => by kernel_rfl) hp0 ⟨
    ob_box (v := PV x) (fun _ => rfl) rfl rfl (fun _ => by kernel_rfl) rfl,
    ob_box (v := PV y) (fun _ => rfl) rfl rfl (fun _ => by kernel_rfl) rfl,
    ob_alloc (v := PV 0) (fun _ => rfl) rfl rfl zeroP rfl,
    trivial⟩ (fun L0 w1 hp1 => ?_)
  refine k1 _ _ ?_
  refine wp_seq_k (fun K2 k2 => ?_)
  refine draws (by kernel_rfl) (ks := [.det (.pointer (some ⟨(L0.b 0), 0, none⟩)), .det (FV x.c0), .det (.pointer (some ⟨(L0.b 1), 0, none⟩)), .det (FV y.c0), .det (FV ((x.c0 * y.c0))), .det (.pointer (some ⟨(L0.b 0), 6, none⟩)), .det (FV x.c1), .det (.pointer (some ⟨(L0.b 1), 6, none⟩)), .det (FV y.c1), .det (FV ((x.c1 * y.c1))), .det (FV (((x.c0 * y.c0) - (x.c1 * y.c1)))), .alloc (FC 0), .store (.new 11) 0 (FC (((x.c0 * y.c0) - (x.c1 * y.c1)))) (FC (((x.c0 * y.c0) - (x.c1 * y.c1))))]) (T := [0, 1, 0, 4, 15, 0, 32, 0, 128, 511, 1023, 0, 4095]) (nt := 32) (nh := 3) (H := [((L0.b 0), PC x), ((L0.b 1), PC y), ((L0.b 2), PC 0)]) (A := fun L => [PV x, PV y, .pointer (some ⟨(L0.b 0), 0, none⟩), .pointer (some ⟨(L0.b 1), 0, none⟩), .pointer (some ⟨(L0.b 2), 0, none⟩), .pointer (some ⟨L.b 11, 0, none⟩), undef, .pointer (some ⟨(L0.b 0), 0, none⟩), FV x.c0, .pointer (some ⟨(L0.b 1), 0, none⟩), FV y.c0, FV ((x.c0 * y.c0)), .pointer (some ⟨(L0.b 0), 6, none⟩), FV x.c1, .pointer (some ⟨(L0.b 1), 6, none⟩), FV y.c1, FV ((x.c1 * y.c1)), FV (((x.c0 * y.c0) - (x.c1 * y.c1))), undef, undef, undef, undef, undef, undef, undef, undef, undef, undef, undef, undef, undef, undef]) (H' := fun L => [((L0.b 0), PC x), ((L0.b 1), PC y), ((L0.b 2), PC 0), (L.b 11, FC (((x.c0 * y.c0) - (x.c1 * y.c1))))]) (by kernel_rfl) rfl rfl rfl (fun L => by kernel_rfl) (fun L => by kernel_rfl) hp1 ⟨
    ob_index (b := (L0.b 0)) (off := 0) (k := 0) (sz := 6) (n := 2) (fun _ => rfl) rfl rfl (fun _ => by kernel_rfl) (fun _ => by kernel_rfl) Tryd.underlying26 sizeF (by decide) rfl,
    ob_load (b := (L0.b 0)) (off := 0) (cs := FC x.c0) (by kernel_rfl) (fun _ => rfl) rfl rfl (fun _ => by kernel_rfl) (fun _ _ hs => partF2_0 (seen_at (k := 0) hs rfl)) Tryd.underlying24 rfl (sizeFC _),
    ob_index (b := (L0.b 1)) (off := 0) (k := 0) (sz := 6) (n := 2) (fun _ => rfl) rfl rfl (fun _ => by kernel_rfl) (fun _ => by kernel_rfl) Tryd.underlying26 sizeF (by decide) rfl,
    ob_load (b := (L0.b 1)) (off := 0) (cs := FC y.c0) (by kernel_rfl) (fun _ => rfl) rfl rfl (fun _ => by kernel_rfl) (fun _ _ hs => partF2_0 (seen_at (k := 1) hs rfl)) Tryd.underlying24 rfl (sizeFC _),
    ob_call (vs := #[FV x.c0, FV y.c0]) (by kernel_rfl) (by kernel_rfl) (fun _ => rfl) rfl rfl (fun _ => by kernel_rfl) (fun w _ _ => R.mul _ _ w trivial),
    ob_index (b := (L0.b 0)) (off := 0) (k := 1) (sz := 6) (n := 2) (fun _ => rfl) rfl rfl (fun _ => by kernel_rfl) (fun _ => by kernel_rfl) Tryd.underlying26 sizeF (by decide) rfl,
    ob_load (b := (L0.b 0)) (off := 6) (cs := FC x.c1) (by kernel_rfl) (fun _ => rfl) rfl rfl (fun _ => by kernel_rfl) (fun _ _ hs => partF2_1 (seen_at (k := 0) hs rfl)) Tryd.underlying24 rfl (sizeFC _),
    ob_index (b := (L0.b 1)) (off := 0) (k := 1) (sz := 6) (n := 2) (fun _ => rfl) rfl rfl (fun _ => by kernel_rfl) (fun _ => by kernel_rfl) Tryd.underlying26 sizeF (by decide) rfl,
    ob_load (b := (L0.b 1)) (off := 6) (cs := FC y.c1) (by kernel_rfl) (fun _ => rfl) rfl rfl (fun _ => by kernel_rfl) (fun _ _ hs => partF2_1 (seen_at (k := 1) hs rfl)) Tryd.underlying24 rfl (sizeFC _),
    ob_call (vs := #[FV x.c1, FV y.c1]) (by kernel_rfl) (by kernel_rfl) (fun _ => rfl) rfl rfl (fun _ => by kernel_rfl) (fun w _ _ => R.mul _ _ w trivial),
    ob_call (vs := #[FV ((x.c0 * y.c0)), FV ((x.c1 * y.c1))]) (by kernel_rfl) (by kernel_rfl) (fun _ => rfl) rfl rfl (fun _ => by kernel_rfl) (fun w _ _ => R.sub _ _ w trivial),
    ob_alloc (v := FV 0) (fun _ => rfl) rfl rfl zeroF rfl,
    ob_store (old := FC 0) (fun _ => rfl) rfl rfl (fun _ => by kernel_rfl) (fun _ => by kernel_rfl) rfl (sizeFC _) (FC_one _) (le_len (FC_len _) (FC_len _) (by decide)) (splice_all ((FC_len _).trans (FC_len _).symm)).symm,
    trivial⟩ (fun L1 w2 hp2 => ?_)
  refine k2 _ _ ?_
  refine wp_seq_k (fun K3 k3 => ?_)
  refine draws (by kernel_rfl) (ks := [.det (.pointer (some ⟨(L0.b 0), 0, none⟩)), .det (FV x.c0), .det (.pointer (some ⟨(L0.b 1), 6, none⟩)), .det (FV y.c1), .det (FV ((x.c0 * y.c1))), .det (.pointer (some ⟨(L0.b 0), 6, none⟩)), .det (FV x.c1), .det (.pointer (some ⟨(L0.b 1), 0, none⟩)), .det (FV y.c0), .det (FV ((x.c1 * y.c0))), .det (FV (((x.c0 * y.c1) + (x.c1 * y.c0)))), .alloc (FC 0), .store (.new 11) 0 (FC (((x.c0 * y.c1) + (x.c1 * y.c0)))) (FC (((x.c0 * y.c1) + (x.c1 * y.c0))))]) (T := [0, 1, 0, 4, 15, 0, 32, 0, 128, 511, 1023, 0, 4095]) (nt := 32) (nh := 4) (H := [((L0.b 0), PC x), ((L0.b 1), PC y), ((L0.b 2), PC 0), ((L1.b 11), FC (((x.c0 * y.c0) - (x.c1 * y.c1))))]) (A := fun L => [PV x, PV y, .pointer (some ⟨(L0.b 0), 0, none⟩), .pointer (some ⟨(L0.b 1), 0, none⟩), .pointer (some ⟨(L0.b 2), 0, none⟩), .pointer (some ⟨(L1.b 11), 0, none⟩), .pointer (some ⟨L.b 11, 0, none⟩), .pointer (some ⟨(L0.b 0), 0, none⟩), FV x.c0, .pointer (some ⟨(L0.b 1), 0, none⟩), FV y.c0, FV ((x.c0 * y.c0)), .pointer (some ⟨(L0.b 0), 6, none⟩), FV x.c1, .pointer (some ⟨(L0.b 1), 6, none⟩), FV y.c1, FV ((x.c1 * y.c1)), FV (((x.c0 * y.c0) - (x.c1 * y.c1))), .pointer (some ⟨(L0.b 0), 0, none⟩), FV x.c0, .pointer (some ⟨(L0.b 1), 6, none⟩), FV y.c1, FV ((x.c0 * y.c1)), .pointer (some ⟨(L0.b 0), 6, none⟩), FV x.c1, .pointer (some ⟨(L0.b 1), 0, none⟩), FV y.c0, FV ((x.c1 * y.c0)), FV (((x.c0 * y.c1) + (x.c1 * y.c0))), undef, undef, undef]) (H' := fun L => [((L0.b 0), PC x), ((L0.b 1), PC y), ((L0.b 2), PC 0), ((L1.b 11), FC (((x.c0 * y.c0) - (x.c1 * y.c1)))), (L.b 11, FC (((x.c0 * y.c1) + (x.c1 * y.c0))))]) (by kernel_rfl) rfl rfl rfl (fun L => by kernel_rfl) (fun L => by kernel_rfl) hp2 ⟨
    ob_index (b := (L0.b 0)) (off := 0) (k := 0) (sz := 6) (n := 2) (fun _ => rfl) rfl rfl (fun _ => by kernel_rfl) (fun _ => by kernel_rfl) Tryd.underlying26 sizeF (by decide) rfl,
    ob_load (b := (L0.b 0)) (off := 0) (cs := FC x.c0) (by kernel_rfl) (fun _ => rfl) rfl rfl (fun _ => by kernel_rfl) (fun _ _ hs => partF2_0 (seen_at (k := 0) hs rfl)) Tryd.underlying24 rfl (sizeFC _),
    ob_index (b := (L0.b 1)) (off := 0) (k := 1) (sz := 6) (n := 2) (fun _ => rfl) rfl rfl (fun _ => by kernel_rfl) (fun _ => by kernel_rfl) Tryd.underlying26 sizeF (by decide) rfl,
    ob_load (b := (L0.b 1)) (off := 6) (cs := FC y.c1) (by kernel_rfl) (fun _ => rfl) rfl rfl (fun _ => by kernel_rfl) (fun _ _ hs => partF2_1 (seen_at (k := 1) hs rfl)) Tryd.underlying24 rfl (sizeFC _),
    ob_call (vs := #[FV x.c0, FV y.c1]) (by kernel_rfl) (by kernel_rfl) (fun _ => rfl) rfl rfl (fun _ => by kernel_rfl) (fun w _ _ => R.mul _ _ w trivial),
    ob_index (b := (L0.b 0)) (off := 0) (k := 1) (sz := 6) (n := 2) (fun _ => rfl) rfl rfl (fun _ => by kernel_rfl) (fun _ => by kernel_rfl) Tryd.underlying26 sizeF (by decide) rfl,
    ob_load (b := (L0.b 0)) (off := 6) (cs := FC x.c1) (by kernel_rfl) (fun _ => rfl) rfl rfl (fun _ => by kernel_rfl) (fun _ _ hs => partF2_1 (seen_at (k := 0) hs rfl)) Tryd.underlying24 rfl (sizeFC _),
    ob_index (b := (L0.b 1)) (off := 0) (k := 0) (sz := 6) (n := 2) (fun _ => rfl) rfl rfl (fun _ => by kernel_rfl) (fun _ => by kernel_rfl) Tryd.underlying26 sizeF (by decide) rfl,
    ob_load (b := (L0.b 1)) (off := 0) (cs := FC y.c0) (by kernel_rfl) (fun _ => rfl) rfl rfl (fun _ => by kernel_rfl) (fun _ _ hs => partF2_0 (seen_at (k := 1) hs rfl)) Tryd.underlying24 rfl (sizeFC _),
    ob_call (vs := #[FV x.c1, FV y.c0]) (by kernel_rfl) (by kernel_rfl) (fun _ => rfl) rfl rfl (fun _ => by kernel_rfl) (fun w _ _ => R.mul _ _ w trivial),
    ob_call (vs := #[FV ((x.c0 * y.c1)), FV ((x.c1 * y.c0))]) (by kernel_rfl) (by kernel_rfl) (fun _ => rfl) rfl rfl (fun _ => by kernel_rfl) (fun w _ _ => R.add _ _ w trivial),
    ob_alloc (v := FV 0) (fun _ => rfl) rfl rfl zeroF rfl,
    ob_store (old := FC 0) (fun _ => rfl) rfl rfl (fun _ => by kernel_rfl) (fun _ => by kernel_rfl) rfl (sizeFC _) (FC_one _) (le_len (FC_len _) (FC_len _) (by decide)) (splice_all ((FC_len _).trans (FC_len _).symm)).symm,
    trivial⟩ (fun L2 w3 hp3 => ?_)
  refine k3 _ _ ?_
  refine wp_seq_k (fun K4 k4 => ?_)
  refine goes (ks := [.det (FV (((x.c0 * y.c0) - (x.c1 * y.c1)))), .det (FV (((x.c0 * y.c1) + (x.c1 * y.c0)))), .det (PV (⟨((x.c0 * y.c0) - (x.c1 * y.c1)), ((x.c0 * y.c1) + (x.c1 * y.c0))⟩)), .store (.base 2) 0 (PC (⟨((x.c0 * y.c0) - (x.c1 * y.c1)), ((x.c0 * y.c1) + (x.c1 * y.c0))⟩)) (PC (⟨((x.c0 * y.c0) - (x.c1 * y.c1)), ((x.c0 * y.c1) + (x.c1 * y.c0))⟩))]) (T := [0, 0, 3, 7]) (nt := 32) (nh := 5) (H := [((L0.b 0), PC x), ((L0.b 1), PC y), ((L0.b 2), PC 0), ((L1.b 11), FC (((x.c0 * y.c0) - (x.c1 * y.c1)))), ((L2.b 11), FC (((x.c0 * y.c1) + (x.c1 * y.c0))))]) (A := fun L => [PV x, PV y, .pointer (some ⟨(L0.b 0), 0, none⟩), .pointer (some ⟨(L0.b 1), 0, none⟩), .pointer (some ⟨(L0.b 2), 0, none⟩), .pointer (some ⟨(L1.b 11), 0, none⟩), .pointer (some ⟨(L2.b 11), 0, none⟩), .pointer (some ⟨(L0.b 0), 0, none⟩), FV x.c0, .pointer (some ⟨(L0.b 1), 0, none⟩), FV y.c0, FV ((x.c0 * y.c0)), .pointer (some ⟨(L0.b 0), 6, none⟩), FV x.c1, .pointer (some ⟨(L0.b 1), 6, none⟩), FV y.c1, FV ((x.c1 * y.c1)), FV (((x.c0 * y.c0) - (x.c1 * y.c1))), .pointer (some ⟨(L0.b 0), 0, none⟩), FV x.c0, .pointer (some ⟨(L0.b 1), 6, none⟩), FV y.c1, FV ((x.c0 * y.c1)), .pointer (some ⟨(L0.b 0), 6, none⟩), FV x.c1, .pointer (some ⟨(L0.b 1), 0, none⟩), FV y.c0, FV ((x.c1 * y.c0)), FV (((x.c0 * y.c1) + (x.c1 * y.c0))), FV (((x.c0 * y.c0) - (x.c1 * y.c1))), FV (((x.c0 * y.c1) + (x.c1 * y.c0))), PV (⟨((x.c0 * y.c0) - (x.c1 * y.c1)), ((x.c0 * y.c1) + (x.c1 * y.c0))⟩)]) (H' := fun L => [((L0.b 0), PC x), ((L0.b 1), PC y), ((L0.b 2), PC (⟨((x.c0 * y.c0) - (x.c1 * y.c1)), ((x.c0 * y.c1) + (x.c1 * y.c0))⟩)), ((L1.b 11), FC (((x.c0 * y.c0) - (x.c1 * y.c1)))), ((L2.b 11), FC (((x.c0 * y.c1) + (x.c1 * y.c0))))]) (by kernel_rfl) rfl rfl rfl (fun L => by kernel_rfl) (fun L => by kernel_rfl) hp3 ⟨
    ob_load (b := (L1.b 11)) (off := 0) (cs := FC (((x.c0 * y.c0) - (x.c1 * y.c1)))) (by kernel_rfl) (fun _ => rfl) rfl rfl (fun _ => by kernel_rfl) (fun _ _ hs => (seen_at (k := 3) hs rfl).cells) Tryd.underlying24 rfl (sizeFC _),
    ob_load (b := (L2.b 11)) (off := 0) (cs := FC (((x.c0 * y.c1) + (x.c1 * y.c0)))) (by kernel_rfl) (fun _ => rfl) rfl rfl (fun _ => by kernel_rfl) (fun _ _ hs => (seen_at (k := 4) hs rfl).cells) Tryd.underlying24 rfl (sizeFC _),
    ob_build (qs := #[(0, FV (((x.c0 * y.c0) - (x.c1 * y.c1)))), (1, FV (((x.c0 * y.c1) + (x.c1 * y.c0))))]) (fun _ => rfl) rfl rfl (fun _ => by kernel_rfl) (buildP _ _),
    ob_store (old := PC 0) (fun _ => rfl) rfl rfl (fun _ => by kernel_rfl) (fun _ => by kernel_rfl) rfl (sizePC _) (PC_one _) (le_len (PC_len _) (PC_len _) (by decide)) (splice_all ((PC_len _).trans (PC_len _).symm)).symm,
    trivial⟩ (fun L3 w4 hp4 => ?_)
  refine k4 _ _ ?_
  refine wp_ret ?_
  exact bodyPost_ret (v := PV (⟨((x.c0 * y.c0) - (x.c1 * y.c1)), ((x.c0 * y.c1) + (x.c1 * y.c0))⟩)) (res_c rfl (by kernel_rfl) (hp4.bound 2 rfl).2 Tryd.underlying26 rfl (sizePC _)) rfl ⟨rfl, hp4.bel⟩
set_option maxHeartbeats 4000000 in
theorem ref5one2 (R : RefK)  (w : World) : Calls Tryd.prog 50 #[] w (Ret (PV 1) w) := by
  have hp0 := Heap.start w
  go_enter Tryd.func50, Tryd.ntmps50
  refine wp_seq_k (fun K1 k1 => ?_)
  refine goes (ks := [.alloc (PC 0)]) (T := [0]) (nt := 3) (nh := 0) (H := []) (A := fun L => [.pointer (some ⟨L.b 0, 0, none⟩), undef, undef]) (H' := fun L => [(L.b 0, PC 0)]) (by kernel_rfl) rfl rfl rfl (fun L => by kernel_rfl) (fun L => by kernel_rfl) hp0 ⟨
    ob_alloc (v := PV 0) (fun _ => rfl) rfl rfl zeroP rfl,
    trivial⟩ (fun L0 w1 hp1 => ?_)
  refine k1 _ _ ?_
  refine wp_seq_k (fun K2 k2 => ?_)
  refine goes (ks := [.det (FV 1), .det (PV (⟨1, 0⟩)), .store (.base 0) 0 (PC (⟨1, 0⟩)) (PC (⟨1, 0⟩))]) (T := [0, 1, 3]) (nt := 3) (nh := 1) (H := [((L0.b 0), PC 0)]) (A := fun L => [.pointer (some ⟨(L0.b 0), 0, none⟩), FV 1, PV (⟨1, 0⟩)]) (H' := fun L => [((L0.b 0), PC (⟨1, 0⟩))]) (by kernel_rfl) rfl rfl rfl (fun L => by kernel_rfl) (fun L => by kernel_rfl) hp1 ⟨
    ob_call (vs := #[.int .u64 1]) (by kernel_rfl) (by kernel_rfl) (fun _ => rfl) rfl rfl (fun _ => by kernel_rfl) (fun w _ _ => R.of1 w),
    ob_build (qs := #[(0, FV 1)]) (fun _ => rfl) rfl rfl (fun _ => by kernel_rfl) (buildPa _),
    ob_store (old := PC 0) (fun _ => rfl) rfl rfl (fun _ => by kernel_rfl) (fun _ => by kernel_rfl) rfl (sizePC _) (PC_one _) (le_len (PC_len _) (PC_len _) (by decide)) (splice_all ((PC_len _).trans (PC_len _).symm)).symm,
    trivial⟩ (fun L1 w2 hp2 => ?_)
  refine k2 _ _ ?_
  refine wp_ret ?_
  exact bodyPost_ret (v := PV (⟨1, 0⟩)) (res_c rfl (by kernel_rfl) (hp2.bound 0 rfl).2 Tryd.underlying26 rfl (sizePC _)) rfl ⟨(by rw [one_mk]), hp2.bel⟩
set_option maxHeartbeats 4000000 in
theorem ref5Great2a (R : RefK) (x : F2) (w : World) (h1 : x.c1 = 0) : Calls Tryd.prog 23 #[PV x] w (Ret (.bool x.great) w) := by
  have hp0 := Heap.start w
  go_enter Tryd.func23, Tryd.ntmps23
  refine wp_seq_k (fun K1 k1 => ?_)
  refine goes (ks := [.alloc (PC x), .det (.bool false)]) (T := [0, 0]) (nt := 13) (nh := 0) (H := []) (A := fun L => [PV x, .pointer (some ⟨L.b 0, 0, none⟩), .bool false, undef, undef, undef, undef, undef, undef, undef, undef, undef, undef]) (H' := fun L => [(L.b 0, PC x)]) (by kernel_rfl) rfl rfl rfl (fun L => by kernel_rfl) (fun L => by kernel_rfl) hp0 ⟨
    ob_box (v := PV x) (fun _ => rfl) rfl rfl (fun _ => by kernel_rfl) rfl,
    ob_assign (fun _ => rfl) rfl rfl (fun _ => by kernel_rfl),
    trivial⟩ (fun L0 w1 hp1 => ?_)
  refine k1 _ _ ?_
  refine wp_seq_k (fun K2 k2 => ?_)
  refine wp_seq_k (fun K3 k3 => ?_)
  refine goes (ks := [.det (.pointer (some ⟨(L0.b 0), 6, none⟩)), .det (FV x.c1), .det (FV 0), .det (.bool false)]) (T := [0, 1, 0, 7]) (nt := 13) (nh := 1) (H := [((L0.b 0), PC x)]) (A := fun L => [PV x, .pointer (some ⟨(L0.b 0), 0, none⟩), .bool false, .pointer (some ⟨(L0.b 0), 6, none⟩), FV x.c1, FV 0, .bool false, undef, undef, undef, undef, undef, undef]) (H' := fun L => [((L0.b 0), PC x)]) (by kernel_rfl) rfl rfl rfl (fun L => by kernel_rfl) (fun L => by kernel_rfl) hp1 ⟨
    ob_index (b := (L0.b 0)) (off := 0) (k := 1) (sz := 6) (n := 2) (fun _ => rfl) rfl rfl (fun _ => by kernel_rfl) (fun _ => by kernel_rfl) Tryd.underlying26 sizeF (by decide) rfl,
    ob_load (b := (L0.b 0)) (off := 6) (cs := FC x.c1) (by kernel_rfl) (fun _ => rfl) rfl rfl (fun _ => by kernel_rfl) (fun _ _ hs => partF2_1 (seen_at (k := 0) hs rfl)) Tryd.underlying24 rfl (sizeFC _),
    ob_build (qs := #[]) (fun _ => rfl) rfl rfl (fun _ => by kernel_rfl) buildF0,
    ob_ne (u := FV x.c1) (v := FV 0) (fun _ => rfl) rfl rfl (fun _ => by kernel_rfl) (fun _ => by kernel_rfl) (fun w => guardF _ _ _ _ _ w) (fun w => (neqF _ _ w).trans (by rw [decide_eq_true (h1)]; try rfl)),
    trivial⟩ (fun L1 w2 hp2 => ?_)
  refine k3 _ _ ?_
  refine wp_cond_false (by kernel_rfl) ?_
  refine skips ?_
  refine k2 _ _ ?_
  refine wp_seq_k (fun K4 k4 => ?_)
  refine goes (ks := [.det (.pointer (some ⟨(L0.b 0), 0, none⟩)), .det (FV x.c0), .det (.bool (great x.c0)), .det (.bool (great x.c0))]) (T := [0, 1, 3, 7]) (nt := 13) (nh := 1) (H := [((L0.b 0), PC x)]) (A := fun L => [PV x, .pointer (some ⟨(L0.b 0), 0, none⟩), .bool (great x.c0), .pointer (some ⟨(L0.b 0), 6, none⟩), FV x.c1, FV 0, .bool false, undef, undef, undef, .pointer (some ⟨(L0.b 0), 0, none⟩), FV x.c0, .bool (great x.c0)]) (H' := fun L => [((L0.b 0), PC x)]) (by kernel_rfl) rfl rfl rfl (fun L => by kernel_rfl) (fun L => by kernel_rfl) hp2 ⟨
    ob_index (b := (L0.b 0)) (off := 0) (k := 0) (sz := 6) (n := 2) (fun _ => rfl) rfl rfl (fun _ => by kernel_rfl) (fun _ => by kernel_rfl) Tryd.underlying26 sizeF (by decide) rfl,
    ob_load (b := (L0.b 0)) (off := 0) (cs := FC x.c0) (by kernel_rfl) (fun _ => rfl) rfl rfl (fun _ => by kernel_rfl) (fun _ _ hs => partF2_0 (seen_at (k := 0) hs rfl)) Tryd.underlying24 rfl (sizeFC _),
    ob_call (vs := #[FV x.c0]) (by kernel_rfl) (by kernel_rfl) (fun _ => rfl) rfl rfl (fun _ => by kernel_rfl) (fun w _ _ => R.great _ w trivial),
    ob_assign (fun _ => rfl) rfl rfl (fun _ => by kernel_rfl),
    trivial⟩ (fun L2 w3 hp3 => ?_)
  refine k4 _ _ ?_
  refine wp_ret ?_
  exact bodyPost_ret (v := .bool (great x.c0)) (res_t rfl (by kernel_rfl) _) rfl ⟨congrArg (fun b => Ending.returned (.bool b)) (if_pos h1).symm, hp3.bel⟩
set_option maxHeartbeats 4000000 in
theorem ref5Great2b (R : RefK) (x : F2) (w : World) (h1 : x.c1 ≠ 0) : Calls Tryd.prog 23 #[PV x] w (Ret (.bool x.great) w) := by
  have hp0 := Heap.start w
  go_enter Tryd.func23, Tryd.ntmps23
  refine wp_seq_k (fun K1 k1 => ?_)
  refine goes (ks := [.alloc (PC x), .det (.bool false)]) (T := [0, 0]) (nt := 13) (nh := 0) (H := []) (A := fun L => [PV x, .pointer (some ⟨L.b 0, 0, none⟩), .bool false, undef, undef, undef, undef, undef, undef, undef, undef, undef, undef]) (H' := fun L => [(L.b 0, PC x)]) (by kernel_rfl) rfl rfl rfl (fun L => by kernel_rfl) (fun L => by kernel_rfl) hp0 ⟨
    ob_box (v := PV x) (fun _ => rfl) rfl rfl (fun _ => by kernel_rfl) rfl,
    ob_assign (fun _ => rfl) rfl rfl (fun _ => by kernel_rfl),
    trivial⟩ (fun L0 w1 hp1 => ?_)
  refine k1 _ _ ?_
  refine wp_seq_k (fun K2 k2 => ?_)
  refine wp_seq_k (fun K3 k3 => ?_)
  refine goes (ks := [.det (.pointer (some ⟨(L0.b 0), 6, none⟩)), .det (FV x.c1), .det (FV 0), .det (.bool true)]) (T := [0, 1, 0, 7]) (nt := 13) (nh := 1) (H := [((L0.b 0), PC x)]) (A := fun L => [PV x, .pointer (some ⟨(L0.b 0), 0, none⟩), .bool false, .pointer (some ⟨(L0.b 0), 6, none⟩), FV x.c1, FV 0, .bool true, undef, undef, undef, undef, undef, undef]) (H' := fun L => [((L0.b 0), PC x)]) (by kernel_rfl) rfl rfl rfl (fun L => by kernel_rfl) (fun L => by kernel_rfl) hp1 ⟨
    ob_index (b := (L0.b 0)) (off := 0) (k := 1) (sz := 6) (n := 2) (fun _ => rfl) rfl rfl (fun _ => by kernel_rfl) (fun _ => by kernel_rfl) Tryd.underlying26 sizeF (by decide) rfl,
    ob_load (b := (L0.b 0)) (off := 6) (cs := FC x.c1) (by kernel_rfl) (fun _ => rfl) rfl rfl (fun _ => by kernel_rfl) (fun _ _ hs => partF2_1 (seen_at (k := 0) hs rfl)) Tryd.underlying24 rfl (sizeFC _),
    ob_build (qs := #[]) (fun _ => rfl) rfl rfl (fun _ => by kernel_rfl) buildF0,
    ob_ne (u := FV x.c1) (v := FV 0) (fun _ => rfl) rfl rfl (fun _ => by kernel_rfl) (fun _ => by kernel_rfl) (fun w => guardF _ _ _ _ _ w) (fun w => (neqF _ _ w).trans (by rw [decide_eq_false (h1)]; try rfl)),
    trivial⟩ (fun L1 w2 hp2 => ?_)
  refine k3 _ _ ?_
  refine wp_cond_true (by kernel_rfl) ?_
  refine wp_seq_k (fun K4 k4 => ?_)
  refine goes (ks := [.det (.pointer (some ⟨(L0.b 0), 6, none⟩)), .det (FV x.c1), .det (.bool (great x.c1)), .det (.bool (great x.c1))]) (T := [0, 1, 3, 7]) (nt := 13) (nh := 1) (H := [((L0.b 0), PC x)]) (A := fun L => [PV x, .pointer (some ⟨(L0.b 0), 0, none⟩), .bool (great x.c1), .pointer (some ⟨(L0.b 0), 6, none⟩), FV x.c1, FV 0, .bool true, .pointer (some ⟨(L0.b 0), 6, none⟩), FV x.c1, .bool (great x.c1), undef, undef, undef]) (H' := fun L => [((L0.b 0), PC x)]) (by kernel_rfl) rfl rfl rfl (fun L => by kernel_rfl) (fun L => by kernel_rfl) hp2 ⟨
    ob_index (b := (L0.b 0)) (off := 0) (k := 1) (sz := 6) (n := 2) (fun _ => rfl) rfl rfl (fun _ => by kernel_rfl) (fun _ => by kernel_rfl) Tryd.underlying26 sizeF (by decide) rfl,
    ob_load (b := (L0.b 0)) (off := 6) (cs := FC x.c1) (by kernel_rfl) (fun _ => rfl) rfl rfl (fun _ => by kernel_rfl) (fun _ _ hs => partF2_1 (seen_at (k := 0) hs rfl)) Tryd.underlying24 rfl (sizeFC _),
    ob_call (vs := #[FV x.c1]) (by kernel_rfl) (by kernel_rfl) (fun _ => rfl) rfl rfl (fun _ => by kernel_rfl) (fun w _ _ => R.great _ w trivial),
    ob_assign (fun _ => rfl) rfl rfl (fun _ => by kernel_rfl),
    trivial⟩ (fun L2 w3 hp3 => ?_)
  refine k4 _ _ ?_
  refine wp_ret ?_
  exact bodyPost_ret (v := .bool (great x.c1)) (res_t rfl (by kernel_rfl) _) rfl ⟨congrArg (fun b => Ending.returned (.bool b)) (if_neg h1).symm, hp3.bel⟩
theorem ref5Great2 (R : RefK) (x : F2) (w : World) : Calls Tryd.prog 23 #[PV x] w (Ret (.bool x.great) w) := by
  by_cases h : x.c1 = 0
  · exact ref5Great2a R x w h
  · exact ref5Great2b R x w h
set_option maxHeartbeats 4000000 in
theorem ref5May2 (R : RefK) (f g : Nat → Int) (w : World) (rf : Rg f 6) (rg : Rg g 6) (lf : val f 6 < RI) (lg : val g 6 < RI) : Calls Tryd.prog 8 #[QV2 f g] w (Ret (.bool true) w) := by
  have hp0 := Heap.start w
  go_enter Tryd.func8, Tryd.ntmps8
  refine wp_seq_k (fun K1 k1 => ?_)
  refine goes (ks := [.alloc (QC2 f g), .det (.bool false)]) (T := [0, 0]) (nt := 11) (nh := 0) (H := []) (A := fun L => [QV2 f g, .pointer (some ⟨L.b 0, 0, none⟩), .bool false, undef, undef, undef, undef, undef, undef, undef, undef]) (H' := fun L => [(L.b 0, QC2 f g)]) (by kernel_rfl) rfl rfl rfl (fun L => by kernel_rfl) (fun L => by kernel_rfl) hp0 ⟨
    ob_box (v := QV2 f g) (fun _ => rfl) rfl rfl (fun _ => by kernel_rfl) rfl,
    ob_assign (fun _ => rfl) rfl rfl (fun _ => by kernel_rfl),
    trivial⟩ (fun L0 w1 hp1 => ?_)
  refine k1 _ _ ?_
  refine wp_seq_k (fun K2 k2 => ?_)
  refine goes (ks := [.det (.pointer (some ⟨(L0.b 0), 0, none⟩)), .det (QV f), .det (.bool true), .det (.bool true), .det (.pointer (some ⟨(L0.b 0), 6, none⟩)), .det (QV g), .det (.bool true), .det (.bool true), .det (.bool true)]) (T := [0, 1, 3, 7, 15, 31, 63, 127, 255]) (nt := 11) (nh := 1) (H := [((L0.b 0), QC2 f g)]) (A := fun L => [QV2 f g, .pointer (some ⟨(L0.b 0), 0, none⟩), .bool true, .pointer (some ⟨(L0.b 0), 0, none⟩), QV f, .bool true, .bool true, .pointer (some ⟨(L0.b 0), 6, none⟩), QV g, .bool true, .bool true]) (H' := fun L => [((L0.b 0), QC2 f g)]) (by kernel_rfl) rfl rfl rfl (fun L => by kernel_rfl) (fun L => by kernel_rfl) hp1 ⟨
    ob_index (b := (L0.b 0)) (off := 0) (k := 0) (sz := 6) (n := 2) (fun _ => rfl) rfl rfl (fun _ => by kernel_rfl) (fun _ => by kernel_rfl) Tryd.underlying26 sizeF (by decide) rfl,
    ob_load (b := (L0.b 0)) (off := 0) (cs := QC f) (by kernel_rfl) (fun _ => rfl) rfl rfl (fun _ => by kernel_rfl) (fun _ _ hs => partQ2_0 (seen_at (k := 0) hs rfl)) Tryd.underlying24 rfl (sizeQC _),
    ob_call (vs := #[QV f]) (by kernel_rfl) (by kernel_rfl) (fun _ => rfl) rfl rfl (fun _ => by kernel_rfl) (fun w _ _ => by have h := R.may f w trivial rf; rw [decide_eq_true lf] at h; exact h),
    ob_move (fun _ => rfl) rfl rfl (fun _ => by kernel_rfl),
    ob_index (b := (L0.b 0)) (off := 0) (k := 1) (sz := 6) (n := 2) (fun _ => by kernel_rfl) rfl rfl (fun _ => by kernel_rfl) (fun _ => by kernel_rfl) Tryd.underlying26 sizeF (by decide) rfl,
    ob_load (b := (L0.b 0)) (off := 6) (cs := QC g) (by kernel_rfl) (fun _ => by kernel_rfl) rfl rfl (fun _ => by kernel_rfl) (fun _ _ hs => partQ2_1 (seen_at (k := 0) hs rfl)) Tryd.underlying24 rfl (sizeQC _),
    ob_call (vs := #[QV g]) (by kernel_rfl) (by kernel_rfl) (fun _ => by kernel_rfl) rfl rfl (fun _ => by kernel_rfl) (fun w _ _ => by have h := R.may g w trivial rg; rw [decide_eq_true lg] at h; exact h),
    ob_pickT (fun _ => rfl) rfl rfl (fun _ => by kernel_rfl) (fun _ => by kernel_rfl),
    ob_assign (fun _ => rfl) rfl rfl (fun _ => by kernel_rfl),
    trivial⟩ (fun L1 w2 hp2 => ?_)
  refine k2 _ _ ?_
  refine wp_ret ?_
  exact bodyPost_ret (v := .bool true) (res_t rfl (by kernel_rfl) _) rfl ⟨rfl, hp2.bel⟩
set_option maxHeartbeats 4000000 in
theorem ref5May20 (R : RefK) (f g : Nat → Int) (w : World) (rf : Rg f 6) (lf : ¬ val f 6 < RI) : Calls Tryd.prog 8 #[QV2 f g] w (Ret (.bool false) w) := by
  have hp0 := Heap.start w
  go_enter Tryd.func8, Tryd.ntmps8
  refine wp_seq_k (fun K1 k1 => ?_)
  refine goes (ks := [.alloc (QC2 f g), .det (.bool false)]) (T := [0, 0]) (nt := 11) (nh := 0) (H := []) (A := fun L => [QV2 f g, .pointer (some ⟨L.b 0, 0, none⟩), .bool false, undef, undef, undef, undef, undef, undef, undef, undef]) (H' := fun L => [(L.b 0, QC2 f g)]) (by kernel_rfl) rfl rfl rfl (fun L => by kernel_rfl) (fun L => by kernel_rfl) hp0 ⟨
    ob_box (v := QV2 f g) (fun _ => rfl) rfl rfl (fun _ => by kernel_rfl) rfl,
    ob_assign (fun _ => rfl) rfl rfl (fun _ => by kernel_rfl),
    trivial⟩ (fun L0 w1 hp1 => ?_)
  refine k1 _ _ ?_
  refine wp_seq_k (fun K2 k2 => ?_)
  refine goes (ks := [.det (.pointer (some ⟨(L0.b 0), 0, none⟩)), .det (QV f), .det (.bool false), .det (.bool false), .det undef, .det undef, .det undef, .det (.bool false), .det (.bool false)]) (T := [0, 1, 3, 7, 15, 31, 63, 127, 255]) (nt := 11) (nh := 1) (H := [((L0.b 0), QC2 f g)]) (A := fun L => [QV2 f g, .pointer (some ⟨(L0.b 0), 0, none⟩), .bool false, .pointer (some ⟨(L0.b 0), 0, none⟩), QV f, .bool false, .bool false, undef, undef, undef, .bool false]) (H' := fun L => [((L0.b 0), QC2 f g)]) (by kernel_rfl) rfl rfl rfl (fun L => by kernel_rfl) (fun L => by kernel_rfl) hp1 ⟨
    ob_index (b := (L0.b 0)) (off := 0) (k := 0) (sz := 6) (n := 2) (fun _ => rfl) rfl rfl (fun _ => by kernel_rfl) (fun _ => by kernel_rfl) Tryd.underlying26 sizeF (by decide) rfl,
    ob_load (b := (L0.b 0)) (off := 0) (cs := QC f) (by kernel_rfl) (fun _ => rfl) rfl rfl (fun _ => by kernel_rfl) (fun _ _ hs => partQ2_0 (seen_at (k := 0) hs rfl)) Tryd.underlying24 rfl (sizeQC _),
    ob_call (vs := #[QV f]) (by kernel_rfl) (by kernel_rfl) (fun _ => rfl) rfl rfl (fun _ => by kernel_rfl) (fun w _ _ => by have h := R.may f w trivial rf; rw [decide_eq_false lf] at h; exact h),
    ob_move (fun _ => rfl) rfl rfl (fun _ => by kernel_rfl),
    ob_skip (fun _ => by kernel_rfl) rfl,
    ob_skip (fun _ => by kernel_rfl) rfl,
    ob_skip (fun _ => by kernel_rfl) rfl,
    ob_pickF (fun _ => rfl) rfl rfl (fun _ => by kernel_rfl) (fun _ => by kernel_rfl),
    ob_assign (fun _ => rfl) rfl rfl (fun _ => by kernel_rfl),
    trivial⟩ (fun L1 w2 hp2 => ?_)
  refine k2 _ _ ?_
  refine wp_ret ?_
  exact bodyPost_ret (v := .bool false) (res_t rfl (by kernel_rfl) _) rfl ⟨rfl, hp2.bel⟩
set_option maxHeartbeats 4000000 in
theorem ref5May21 (R : RefK) (f g : Nat → Int) (w : World) (rf : Rg f 6) (rg : Rg g 6) (lf : val f 6 < RI) (lg : ¬ val g 6 < RI) : Calls Tryd.prog 8 #[QV2 f g] w (Ret (.bool false) w) := by
  have hp0 := Heap.start w
  go_enter Tryd.func8, Tryd.ntmps8
  refine wp_seq_k (fun K1 k1 => ?_)
  refine goes (ks := [.alloc (QC2 f g), .det (.bool false)]) (T := [0, 0]) (nt := 11) (nh := 0) (H := []) (A := fun L => [QV2 f g, .pointer (some ⟨L.b 0, 0, none⟩), .bool false, undef, undef, undef, undef, undef, undef, undef, undef]) (H' := fun L => [(L.b 0, QC2 f g)]) (by kernel_rfl) rfl rfl rfl (fun L => by kernel_rfl) (fun L => by kernel_rfl) hp0 ⟨
    ob_box (v := QV2 f g) (fun _ => rfl) rfl rfl (fun _ => by kernel_rfl) rfl,
    ob_assign (fun _ => rfl) rfl rfl (fun _ => by kernel_rfl),
    trivial⟩ (fun L0 w1 hp1 => ?_)
  refine k1 _ _ ?_
  refine wp_seq_k (fun K2 k2 => ?_)
  refine goes (ks := [.det (.pointer (some ⟨(L0.b 0), 0, none⟩)), .det (QV f), .det (.bool true), .det (.bool true), .det (.pointer (some ⟨(L0.b 0), 6, none⟩)), .det (QV g), .det (.bool false), .det (.bool false), .det (.bool false)]) (T := [0, 1, 3, 7, 15, 31, 63, 127, 255]) (nt := 11) (nh := 1) (H := [((L0.b 0), QC2 f g)]) (A := fun L => [QV2 f g, .pointer (some ⟨(L0.b 0), 0, none⟩), .bool false, .pointer (some ⟨(L0.b 0), 0, none⟩), QV f, .bool true, .bool true, .pointer (some ⟨(L0.b 0), 6, none⟩), QV g, .bool false, .bool false]) (H' := fun L => [((L0.b 0), QC2 f g)]) (by kernel_rfl) rfl rfl rfl (fun L => by kernel_rfl) (fun L => by kernel_rfl) hp1 ⟨
    ob_index (b := (L0.b 0)) (off := 0) (k := 0) (sz := 6) (n := 2) (fun _ => rfl) rfl rfl (fun _ => by kernel_rfl) (fun _ => by kernel_rfl) Tryd.underlying26 sizeF (by decide) rfl,
    ob_load (b := (L0.b 0)) (off := 0) (cs := QC f) (by kernel_rfl) (fun _ => rfl) rfl rfl (fun _ => by kernel_rfl) (fun _ _ hs => partQ2_0 (seen_at (k := 0) hs rfl)) Tryd.underlying24 rfl (sizeQC _),
    ob_call (vs := #[QV f]) (by kernel_rfl) (by kernel_rfl) (fun _ => rfl) rfl rfl (fun _ => by kernel_rfl) (fun w _ _ => by have h := R.may f w trivial rf; rw [decide_eq_true lf] at h; exact h),
    ob_move (fun _ => rfl) rfl rfl (fun _ => by kernel_rfl),
    ob_index (b := (L0.b 0)) (off := 0) (k := 1) (sz := 6) (n := 2) (fun _ => by kernel_rfl) rfl rfl (fun _ => by kernel_rfl) (fun _ => by kernel_rfl) Tryd.underlying26 sizeF (by decide) rfl,
    ob_load (b := (L0.b 0)) (off := 6) (cs := QC g) (by kernel_rfl) (fun _ => by kernel_rfl) rfl rfl (fun _ => by kernel_rfl) (fun _ _ hs => partQ2_1 (seen_at (k := 0) hs rfl)) Tryd.underlying24 rfl (sizeQC _),
    ob_call (vs := #[QV g]) (by kernel_rfl) (by kernel_rfl) (fun _ => by kernel_rfl) rfl rfl (fun _ => by kernel_rfl) (fun w _ _ => by have h := R.may g w trivial rg; rw [decide_eq_false lg] at h; exact h),
    ob_pickT (fun _ => rfl) rfl rfl (fun _ => by kernel_rfl) (fun _ => by kernel_rfl),
    ob_assign (fun _ => rfl) rfl rfl (fun _ => by kernel_rfl),
    trivial⟩ (fun L1 w2 hp2 => ?_)
  refine k2 _ _ ?_
  refine wp_ret ?_
  exact bodyPost_ret (v := .bool false) (res_t rfl (by kernel_rfl) _) rfl ⟨rfl, hp2.bel⟩
end Go.Proofs.YtgoghcmnnhglhaaDoor.fpn

/- Pairs: powers; the power by P is Conj. No program is named here. -/
namespace Go.Proofs.YtgoghcmnnhglhaaDoor.fpn
set_option linter.unusedVariables false
namespace F2

/-- x^n. -/
def pw2 (x : F2) : Nat → F2
  | 0 => 1
  | n + 1 => pw2 x n * x
theorem pw2_add (x : F2) (m : Nat) : ∀ n, pw2 x (m + n) = pw2 x m * pw2 x n
  | 0 => (mul_one' _).symm
  | n + 1 => by rw [← Nat.add_assoc, pw2, pw2_add x m n, pw2, mul_assoc']
theorem pw2_two (x : F2) (n : Nat) : pw2 x (2 * n) = pw2 x n * pw2 x n := by rw [Nat.two_mul, pw2_add]
/-- n x. -/
def sm (n : Nat) (x : F2) : F2 := ⟨Fin.ofNat RN n * x.c0, Fin.ofNat RN n * x.c1⟩
/-- A number of the base field, as a pair. -/
def lift (a : F) : F2 := ⟨a, 0⟩
def uu : F2 := ⟨0, 1⟩
theorem l1 (a b z : F) (hz : z = 0) : a * b - z * z = a * b := by grind
theorem l2 (a b z : F) (hz : z = 0) : a * z + z * b = z := by grind
theorem uu_sq : uu * uu = -1 := by kernel_rfl
theorem m1 (b z o : F) (hz : z = 0) (ho : o = 1) : b * z - z * o = z ∧ b * o + z * z = b ∧ b * z - z * (-o) = z ∧ b * (-o) + z * z = -b := ⟨by grind, by grind, by grind, by grind⟩
theorem m2 (a c z o : F) (hz : z = 0) (ho : o = 1) : a * (z + o) - z * (c + z) = a ∧ a * (c + z) + z * (z + o) = a * c ∧ a * (o + z) - z * (z + c) = a ∧ a * (z + c) + z * (o + z) = a * c := ⟨by grind, by grind, by grind, by grind⟩
theorem split (a c : F) : lift a * ((⟨0, c⟩ : F2) + 1) = ⟨a, a * c⟩ := ext' (m2 a c 0 1 rfl rfl).1 (m2 a c 0 1 rfl rfl).2.1
end F2
end Go.Proofs.YtgoghcmnnhglhaaDoor.fpn

/- Does fp2 do anything? Yes. -/
namespace Go.Proofs.YtgoghcmnnhglhaaDoor.fpn
open Go.RowKit Pl
set_option linter.unusedVariables false
set_option linter.unusedSimpArgs false
set_option maxRecDepth 4000

theorem fp2MayP {G : World → Prop} (K : FpK G) (x : F2) (w : World) (hg : G w) : Calls Tryd.prog 9 #[PV x] w (Ret (.bool true) w) :=
  fp2May K (lb x.c0.val) (lb x.c1.val) w hg (lb_rg _ _) (lb_rg _ _) (lt_RI _) (lt_RI _)
theorem ref5MayP (R : RefK) (x : F2) (w : World) : Calls Tryd.prog 8 #[PV x] w (Ret (.bool true) w) :=
  ref5May2 R (lb x.c0.val) (lb x.c1.val) w (lb_rg _ _) (lb_rg _ _) (lt_RI _) (lt_RI _)
namespace F2
def m1' : F2 := -1
def nu : F2 := -uu
theorem nu_mul : uu * nu = 1 := by kernel_rfl
theorem uu_ne : uu ≠ 0 := fun h => absurd (congrArg (fun x : F2 => x.c1.val) h) (by decide +kernel)
theorem uu_great : uu.great = false := by decide +kernel
theorem uu_conj : uu.conj = nu := by kernel_rfl
theorem uu_inv : uu.inv = nu := by
  have h := inv_mul uu_ne
  have e : nu * (uu * uu.inv) = uu.inv := by rw [mul_assoc', mul_comm' nu uu, nu_mul, one_mul']
  rw [h, mul_one'] at e
  exact e.symm
end F2
theorem bg1 {G : World → Prop} (K : FpK G) (w : World) (hg : G w) : Calls Tryd.prog 16 #[PV ⟨1, 0⟩] w (Ret (PV F2.m1') w) := fp2Neg K 1 w hg
theorem bg2 {G : World → Prop} (K : FpK G) (w : World) (hg : G w) (hH : ∀ w, G w → w.rangeAt 2 0 (FC hf)) : Calls Tryd.prog 24 #[PV F2.m1'] w (Ret (.tuple #[PV ⟨0, 1⟩, .bool true]) w) := by
  have h := fp2Sqrt K F2.m1' w hg hH
  rw [F2.sq2_of (a := F2.m1') (r := F2.uu) F2.uu_sq F2.uu_great, F2.is2_of (a := F2.m1') (r := F2.uu) F2.uu_sq] at h
  exact h
theorem bg3 {G : World → Prop} (K : FpK G) (w : World) (hg : G w) : Calls Tryd.prog 10 #[PV ⟨0, 1⟩] w (Ret (.tuple #[PV F2.nu, .int .i64 0]) w) := by
  have h := fp2Inv K F2.uu w hg (F2.norm_ne F2.uu_ne)
  rw [F2.uu_inv] at h
  exact h
theorem bg4 {G : World → Prop} (K : FpK G) (w : World) (hg : G w) : Calls Tryd.prog 18 #[PV ⟨0, 1⟩, PV ⟨0, 1⟩] w (Ret (PV F2.m1') w) := by
  have h := fp2Mul K F2.uu F2.uu w hg
  rw [F2.uu_sq] at h
  exact h
theorem bg5 {G : World → Prop} (K : FpK G) (w : World) (hg : G w) : Calls Tryd.prog 16 #[PV ⟨0, 1⟩] w (Ret (PV F2.nu) w) := fp2Neg K F2.uu w hg
theorem bg6 {G : World → Prop} (K : FpK G) (w : World) (hg : G w) : Calls Tryd.prog 20 #[PV ⟨0, 1⟩] w (Ret (PV F2.nu) w) := by
  have h := fp2Conj K F2.uu w hg
  rw [F2.uu_conj] at h
  exact h
set_option maxHeartbeats 4000000 in
theorem begun5 {G : World → Prop} (K : FpK G)  (w : World) (hg : G w) (hH : ∀ w, G w → w.rangeAt 2 0 (FC hf)) : Calls Tryd.prog 7 #[] w (Ret (.bool true) w) := by
  have hp0 := Heap.start w
  go_enter Tryd.func7, Tryd.ntmps7
  refine wp_seq_k (fun K1 k1 => ?_)
  refine goes (ks := [.det (.bool false)]) (T := [0]) (nt := 56) (nh := 0) (H := []) (A := fun L => [.bool false, undef, undef, undef, undef, undef, undef, undef, undef, undef, undef, undef, undef, undef, undef, undef, undef, undef, undef, undef, undef, undef, undef, undef, undef, undef, undef, undef, undef, undef, undef, undef, undef, undef, undef, undef, undef, undef, undef, undef, undef, undef, undef, undef, undef, undef, undef, undef, undef, undef, undef, undef, undef, undef, undef, undef]) (H' := fun L => []) (by kernel_rfl) rfl rfl rfl (fun L => by kernel_rfl) (fun L => by kernel_rfl) hp0 ⟨
    ob_assign (fun _ => rfl) rfl rfl (fun _ => by kernel_rfl),
    trivial⟩ (fun L0 w1 hp1 => ?_)
  refine k1 _ _ ?_
  refine wp_seq_k (fun K2 k2 => ?_)
  refine goes (ks := [.det (FV 0), .det (FV 1), .det (PV ⟨0, 1⟩), .alloc (PC 0), .store (.new 3) 0 (PC ⟨0, 1⟩) (PC ⟨0, 1⟩)]) (T := [0, 0, 3, 0, 15]) (nt := 56) (nh := 0) (H := []) (A := fun L => [.bool false, .pointer (some ⟨L.b 3, 0, none⟩), undef, undef, undef, undef, undef, FV 0, FV 1, PV ⟨0, 1⟩, undef, undef, undef, undef, undef, undef, undef, undef, undef, undef, undef, undef, undef, undef, undef, undef, undef, undef, undef, undef, undef, undef, undef, undef, undef, undef, undef, undef, undef, undef, undef, undef, undef, undef, undef, undef, undef, undef, undef, undef, undef, undef, undef, undef, undef, undef]) (H' := fun L => [(L.b 3, PC ⟨0, 1⟩)]) (by kernel_rfl) rfl rfl rfl (fun L => by kernel_rfl) (fun L => by kernel_rfl) hp1 ⟨
    ob_build (qs := #[]) (fun _ => rfl) rfl rfl (fun _ => by kernel_rfl) buildF0,
    ob_build (qs := #[(0, .int .u64 1)]) (fun _ => rfl) rfl rfl (fun _ => by kernel_rfl) buildF1,
    ob_build (qs := #[(0, FV 0), (1, FV 1)]) (fun _ => rfl) rfl rfl (fun _ => by kernel_rfl) (buildP _ _),
    ob_alloc (v := PV 0) (fun _ => rfl) rfl rfl zeroP rfl,
    ob_store (old := PC 0) (fun _ => rfl) rfl rfl (fun _ => by kernel_rfl) (fun _ => by kernel_rfl) rfl (sizePC _) (PC_one _) (le_len (PC_len _) (PC_len _) (by decide)) (splice_all ((PC_len _).trans (PC_len _).symm)).symm,
    trivial⟩ (fun L1 w2 hp2 => ?_)
  refine k2 _ _ ?_
  refine wp_seq_k (fun K3 k3 => ?_)
  refine goes (ks := [.det (FV 1), .det (PV ⟨1, 0⟩), .det (PV F2.m1'), .alloc (PC 0), .store (.new 3) 0 (PC F2.m1') (PC F2.m1')]) (T := [0, 1, 3, 0, 15]) (nt := 56) (nh := 1) (H := [((L1.b 3), PC ⟨0, 1⟩)]) (A := fun L => [.bool false, .pointer (some ⟨(L1.b 3), 0, none⟩), .pointer (some ⟨L.b 3, 0, none⟩), undef, undef, undef, undef, FV 0, FV 1, PV ⟨0, 1⟩, FV 1, PV ⟨1, 0⟩, PV F2.m1', undef, undef, undef, undef, undef, undef, undef, undef, undef, undef, undef, undef, undef, undef, undef, undef, undef, undef, undef, undef, undef, undef, undef, undef, undef, undef, undef, undef, undef, undef, undef, undef, undef, undef, undef, undef, undef, undef, undef, undef, undef, undef, undef]) (H' := fun L => [((L1.b 3), PC ⟨0, 1⟩), (L.b 3, PC F2.m1')]) (by kernel_rfl) rfl rfl rfl (fun L => by kernel_rfl) (fun L => by kernel_rfl) hp2 ⟨
    ob_build (qs := #[(0, .int .u64 1)]) (fun _ => rfl) rfl rfl (fun _ => by kernel_rfl) buildF1,
    ob_build (qs := #[(0, FV 1)]) (fun _ => rfl) rfl rfl (fun _ => by kernel_rfl) (buildPa _),
    ob_call (vs := #[PV ⟨1, 0⟩]) (by kernel_rfl) (by kernel_rfl) (fun _ => rfl) rfl rfl (fun _ => by kernel_rfl) (fun w hb _ => bg1 K w (K.stay hg hb)),
    ob_alloc (v := PV 0) (fun _ => rfl) rfl rfl zeroP rfl,
    ob_store (old := PC 0) (fun _ => rfl) rfl rfl (fun _ => by kernel_rfl) (fun _ => by kernel_rfl) rfl (sizePC _) (PC_one _) (le_len (PC_len _) (PC_len _) (by decide)) (splice_all ((PC_len _).trans (PC_len _).symm)).symm,
    trivial⟩ (fun L2 w3 hp3 => ?_)
  refine k3 _ _ ?_
  refine wp_seq_k (fun K4 k4 => ?_)
  refine goes (ks := [.det (PV F2.m1'), .det (.tuple #[PV ⟨0, 1⟩, .bool true]), .det (.tuple #[PV ⟨0, 1⟩, .bool true]), .det (PV ⟨0, 1⟩), .det (.bool true), .alloc (PC 0), .store (.new 5) 0 (PC ⟨0, 1⟩) (PC ⟨0, 1⟩), .det (.bool true)]) (T := [0, 1, 3, 7, 7, 0, 47, 127]) (nt := 56) (nh := 2) (H := [((L1.b 3), PC ⟨0, 1⟩), ((L2.b 3), PC F2.m1')]) (A := fun L => [.bool false, .pointer (some ⟨(L1.b 3), 0, none⟩), .pointer (some ⟨(L2.b 3), 0, none⟩), .pointer (some ⟨L.b 5, 0, none⟩), .bool true, undef, undef, FV 0, FV 1, PV ⟨0, 1⟩, FV 1, PV ⟨1, 0⟩, PV F2.m1', .tuple #[PV ⟨0, 1⟩, .bool true], PV F2.m1', .tuple #[PV ⟨0, 1⟩, .bool true], PV ⟨0, 1⟩, .bool true, undef, undef, undef, undef, undef, undef, undef, undef, undef, undef, undef, undef, undef, undef, undef, undef, undef, undef, undef, undef, undef, undef, undef, undef, undef, undef, undef, undef, undef, undef, undef, undef, undef, undef, undef, undef, undef, undef]) (H' := fun L => [((L1.b 3), PC ⟨0, 1⟩), ((L2.b 3), PC F2.m1'), (L.b 5, PC ⟨0, 1⟩)]) (by kernel_rfl) rfl rfl rfl (fun L => by kernel_rfl) (fun L => by kernel_rfl) hp3 ⟨
    ob_load (b := (L2.b 3)) (off := 0) (cs := PC F2.m1') (by kernel_rfl) (fun _ => rfl) rfl rfl (fun _ => by kernel_rfl) (fun _ _ hs => (seen_at (k := 1) hs rfl).cells) Tryd.underlying26 rfl (sizePC _),
    ob_call (vs := #[PV F2.m1']) (by kernel_rfl) (by kernel_rfl) (fun _ => rfl) rfl rfl (fun _ => by kernel_rfl) (fun w hb _ => bg2 K w (K.stay hg hb) hH),
    ob_move (fun _ => rfl) rfl rfl (fun _ => by kernel_rfl),
    ob_extract (vs := #[PV ⟨0, 1⟩, .bool true]) (fun _ => rfl) rfl rfl (fun _ => by kernel_rfl) rfl,
    ob_extract (vs := #[PV ⟨0, 1⟩, .bool true]) (fun _ => rfl) rfl rfl (fun _ => by kernel_rfl) rfl,
    ob_alloc (v := PV 0) (fun _ => rfl) rfl rfl zeroP rfl,
    ob_store (old := PC 0) (fun _ => rfl) rfl rfl (fun _ => by kernel_rfl) (fun _ => by kernel_rfl) rfl (sizePC _) (PC_one _) (le_len (PC_len _) (PC_len _) (by decide)) (splice_all ((PC_len _).trans (PC_len _).symm)).symm,
    ob_assign (fun _ => rfl) rfl rfl (fun _ => by kernel_rfl),
    trivial⟩ (fun L3 w4 hp4 => ?_)
  refine k4 _ _ ?_
  refine wp_seq_k (fun K5 k5 => ?_)
  refine goes (ks := [.det (PV ⟨0, 1⟩), .det (.tuple #[PV F2.nu, .int .i64 0]), .det (.tuple #[PV F2.nu, .int .i64 0]), .det (PV F2.nu), .det (.int .i64 0), .alloc (PC 0), .store (.new 5) 0 (PC F2.nu) (PC F2.nu), .det (.int .i64 0)]) (T := [0, 1, 3, 7, 7, 0, 47, 127]) (nt := 56) (nh := 3) (H := [((L1.b 3), PC ⟨0, 1⟩), ((L2.b 3), PC F2.m1'), ((L3.b 5), PC ⟨0, 1⟩)]) (A := fun L => [.bool false, .pointer (some ⟨(L1.b 3), 0, none⟩), .pointer (some ⟨(L2.b 3), 0, none⟩), .pointer (some ⟨(L3.b 5), 0, none⟩), .bool true, .pointer (some ⟨L.b 5, 0, none⟩), .int .i64 0, FV 0, FV 1, PV ⟨0, 1⟩, FV 1, PV ⟨1, 0⟩, PV F2.m1', .tuple #[PV ⟨0, 1⟩, .bool true], PV F2.m1', .tuple #[PV ⟨0, 1⟩, .bool true], PV ⟨0, 1⟩, .bool true, .tuple #[PV F2.nu, .int .i64 0], PV ⟨0, 1⟩, .tuple #[PV F2.nu, .int .i64 0], PV F2.nu, .int .i64 0, undef, undef, undef, undef, undef, undef, undef, undef, undef, undef, undef, undef, undef, undef, undef, undef, undef, undef, undef, undef, undef, undef, undef, undef, undef, undef, undef, undef, undef, undef, undef, undef, undef]) (H' := fun L => [((L1.b 3), PC ⟨0, 1⟩), ((L2.b 3), PC F2.m1'), ((L3.b 5), PC ⟨0, 1⟩), (L.b 5, PC F2.nu)]) (by kernel_rfl) rfl rfl rfl (fun L => by kernel_rfl) (fun L => by kernel_rfl) hp4 ⟨
    ob_load (b := (L1.b 3)) (off := 0) (cs := PC ⟨0, 1⟩) (by kernel_rfl) (fun _ => rfl) rfl rfl (fun _ => by kernel_rfl) (fun _ _ hs => (seen_at (k := 0) hs rfl).cells) Tryd.underlying26 rfl (sizePC _),
    ob_call (vs := #[PV ⟨0, 1⟩]) (by kernel_rfl) (by kernel_rfl) (fun _ => rfl) rfl rfl (fun _ => by kernel_rfl) (fun w hb _ => bg3 K w (K.stay hg hb)),
    ob_move (fun _ => rfl) rfl rfl (fun _ => by kernel_rfl),
    ob_extract (vs := #[PV F2.nu, .int .i64 0]) (fun _ => rfl) rfl rfl (fun _ => by kernel_rfl) rfl,
    ob_extract (vs := #[PV F2.nu, .int .i64 0]) (fun _ => rfl) rfl rfl (fun _ => by kernel_rfl) rfl,
    ob_alloc (v := PV 0) (fun _ => rfl) rfl rfl zeroP rfl,
    ob_store (old := PC 0) (fun _ => rfl) rfl rfl (fun _ => by kernel_rfl) (fun _ => by kernel_rfl) rfl (sizePC _) (PC_one _) (le_len (PC_len _) (PC_len _) (by decide)) (splice_all ((PC_len _).trans (PC_len _).symm)).symm,
    ob_assign (fun _ => rfl) rfl rfl (fun _ => by kernel_rfl),
    trivial⟩ (fun L4 w5 hp5 => ?_)
  refine k5 _ _ ?_
  refine wp_seq_k (fun K6 k6 => ?_)
  refine draws (by kernel_rfl) (ks := [.det (PV ⟨0, 1⟩), .det (PV ⟨0, 1⟩), .det (PV F2.m1'), .det (PV F2.m1'), .det (.bool true), .det (.bool true), .det (.bool true), .det (.bool true), .det (.bool true), .det (PV ⟨0, 1⟩), .det (PV ⟨0, 1⟩), .det (.bool true), .det (.bool true), .det (.bool true), .det (.int .i64 0), .det (.bool true), .det (.bool true), .det (.bool true), .det (PV F2.nu), .det (PV ⟨0, 1⟩), .det (PV F2.nu), .det (.bool true), .det (.bool true), .det (.bool true), .det (PV ⟨0, 1⟩), .det (.bool true), .det (.bool true), .det (.bool true), .det (PV ⟨0, 1⟩), .det (PV F2.nu), .det (PV F2.nu), .det (.bool true), .det (.bool true), .det (.bool true)]) (T := [0, 0, 3, 0, 15, 31, 63, 127, 255, 511, 511, 2047, 4095, 8191, 16383, 32767, 65535, 131071, 262143, 262143, 786431, 2097151, 4194303, 8388607, 16777215, 33554431, 67108863, 134217727, 268435455, 536870911, 268435455, 2147483647, 4294967295, 8589934591]) (nt := 56) (nh := 4) (H := [((L1.b 3), PC ⟨0, 1⟩), ((L2.b 3), PC F2.m1'), ((L3.b 5), PC ⟨0, 1⟩), ((L4.b 5), PC F2.nu)]) (A := fun L => [.bool true, .pointer (some ⟨(L1.b 3), 0, none⟩), .pointer (some ⟨(L2.b 3), 0, none⟩), .pointer (some ⟨(L3.b 5), 0, none⟩), .bool true, .pointer (some ⟨(L4.b 5), 0, none⟩), .int .i64 0, FV 0, FV 1, PV ⟨0, 1⟩, FV 1, PV ⟨1, 0⟩, PV F2.m1', .tuple #[PV ⟨0, 1⟩, .bool true], PV F2.m1', .tuple #[PV ⟨0, 1⟩, .bool true], PV ⟨0, 1⟩, .bool true, .tuple #[PV F2.nu, .int .i64 0], PV ⟨0, 1⟩, .tuple #[PV F2.nu, .int .i64 0], PV F2.nu, .int .i64 0, PV ⟨0, 1⟩, PV ⟨0, 1⟩, PV F2.m1', PV F2.m1', .bool true, .bool true, .bool true, .bool true, .bool true, PV ⟨0, 1⟩, PV ⟨0, 1⟩, .bool true, .bool true, .bool true, .int .i64 0, .bool true, .bool true, .bool true, PV F2.nu, PV ⟨0, 1⟩, PV F2.nu, .bool true, .bool true, .bool true, PV ⟨0, 1⟩, .bool true, .bool true, .bool true, PV ⟨0, 1⟩, PV F2.nu, PV F2.nu, .bool true, .bool true]) (H' := fun L => [((L1.b 3), PC ⟨0, 1⟩), ((L2.b 3), PC F2.m1'), ((L3.b 5), PC ⟨0, 1⟩), ((L4.b 5), PC F2.nu)]) (by kernel_rfl) rfl rfl rfl (fun L => by kernel_rfl) (fun L => by kernel_rfl) hp5 ⟨
    ob_load (b := (L1.b 3)) (off := 0) (cs := PC ⟨0, 1⟩) (by kernel_rfl) (fun _ => rfl) rfl rfl (fun _ => by kernel_rfl) (fun _ _ hs => (seen_at (k := 0) hs rfl).cells) Tryd.underlying26 rfl (sizePC _),
    ob_load (b := (L1.b 3)) (off := 0) (cs := PC ⟨0, 1⟩) (by kernel_rfl) (fun _ => rfl) rfl rfl (fun _ => by kernel_rfl) (fun _ _ hs => (seen_at (k := 0) hs rfl).cells) Tryd.underlying26 rfl (sizePC _),
    ob_call (vs := #[PV ⟨0, 1⟩, PV ⟨0, 1⟩]) (by kernel_rfl) (by kernel_rfl) (fun _ => rfl) rfl rfl (fun _ => by kernel_rfl) (fun w hb _ => bg4 K w (K.stay hg hb)),
    ob_load (b := (L2.b 3)) (off := 0) (cs := PC F2.m1') (by kernel_rfl) (fun _ => rfl) rfl rfl (fun _ => by kernel_rfl) (fun _ _ hs => (seen_at (k := 1) hs rfl).cells) Tryd.underlying26 rfl (sizePC _),
    ob_eq (u := PV F2.m1') (v := PV F2.m1') (fun _ => rfl) rfl rfl (fun _ => by kernel_rfl) (fun _ => by kernel_rfl) (fun w => guardP _ _ _ _ _ w) (fun w => (eqlP _ _ w).trans (by rw [decide_eq_true (rfl)]; try rfl)),
    ob_move (fun _ => rfl) rfl rfl (fun _ => by kernel_rfl),
    ob_move (fun _ => by kernel_rfl) rfl rfl (fun _ => by kernel_rfl),
    ob_pickT (fun _ => rfl) rfl rfl (fun _ => by kernel_rfl) (fun _ => by kernel_rfl),
    ob_move (fun _ => rfl) rfl rfl (fun _ => by kernel_rfl),
    ob_load (b := (L3.b 5)) (off := 0) (cs := PC ⟨0, 1⟩) (by kernel_rfl) (fun _ => by kernel_rfl) rfl rfl (fun _ => by kernel_rfl) (fun _ _ hs => (seen_at (k := 2) hs rfl).cells) Tryd.underlying26 rfl (sizePC _),
    ob_load (b := (L1.b 3)) (off := 0) (cs := PC ⟨0, 1⟩) (by kernel_rfl) (fun _ => by kernel_rfl) rfl rfl (fun _ => by kernel_rfl) (fun _ _ hs => (seen_at (k := 0) hs rfl).cells) Tryd.underlying26 rfl (sizePC _),
    ob_eq (u := PV ⟨0, 1⟩) (v := PV ⟨0, 1⟩) (fun _ => by kernel_rfl) rfl rfl (fun _ => by kernel_rfl) (fun _ => by kernel_rfl) (fun w => guardP _ _ _ _ _ w) (fun w => (eqlP _ _ w).trans (by rw [decide_eq_true (rfl)]; try rfl)),
    ob_pickT (fun _ => rfl) rfl rfl (fun _ => by kernel_rfl) (fun _ => by kernel_rfl),
    ob_move (fun _ => rfl) rfl rfl (fun _ => by kernel_rfl),
    ob_move (fun _ => by kernel_rfl) rfl rfl (fun _ => by kernel_rfl),
    ob_eq (u := .int .i64 0) (v := .int .i64 0) (fun _ => by kernel_rfl) rfl rfl (fun _ => by kernel_rfl) (fun _ => by kernel_rfl) (fun w => guardI _ _ _ _ _ _ _ _ w) (fun w => (eqlI _ _ _ _ w).trans rfl),
    ob_pickT (fun _ => rfl) rfl rfl (fun _ => by kernel_rfl) (fun _ => by kernel_rfl),
    ob_move (fun _ => rfl) rfl rfl (fun _ => by kernel_rfl),
    ob_load (b := (L4.b 5)) (off := 0) (cs := PC F2.nu) (by kernel_rfl) (fun _ => by kernel_rfl) rfl rfl (fun _ => by kernel_rfl) (fun _ _ hs => (seen_at (k := 3) hs rfl).cells) Tryd.underlying26 rfl (sizePC _),
    ob_load (b := (L1.b 3)) (off := 0) (cs := PC ⟨0, 1⟩) (by kernel_rfl) (fun _ => by kernel_rfl) rfl rfl (fun _ => by kernel_rfl) (fun _ _ hs => (seen_at (k := 0) hs rfl).cells) Tryd.underlying26 rfl (sizePC _),
    ob_call (vs := #[PV ⟨0, 1⟩]) (by kernel_rfl) (by kernel_rfl) (fun _ => by kernel_rfl) rfl rfl (fun _ => by kernel_rfl) (fun w hb _ => bg5 K w (K.stay hg hb)),
    ob_eq (u := PV F2.nu) (v := PV F2.nu) (fun _ => by kernel_rfl) rfl rfl (fun _ => by kernel_rfl) (fun _ => by kernel_rfl) (fun w => guardP _ _ _ _ _ w) (fun w => (eqlP _ _ w).trans (by rw [decide_eq_true (rfl)]; try rfl)),
    ob_pickT (fun _ => rfl) rfl rfl (fun _ => by kernel_rfl) (fun _ => by kernel_rfl),
    ob_move (fun _ => rfl) rfl rfl (fun _ => by kernel_rfl),
    ob_load (b := (L1.b 3)) (off := 0) (cs := PC ⟨0, 1⟩) (by kernel_rfl) (fun _ => by kernel_rfl) rfl rfl (fun _ => by kernel_rfl) (fun _ _ hs => (seen_at (k := 0) hs rfl).cells) Tryd.underlying26 rfl (sizePC _),
    ob_call (vs := #[PV ⟨0, 1⟩]) (by kernel_rfl) (by kernel_rfl) (fun _ => by kernel_rfl) rfl rfl (fun _ => by kernel_rfl) (fun w hb _ => fp2MayP K _ w (K.stay hg hb)),
    ob_pickT (fun _ => rfl) rfl rfl (fun _ => by kernel_rfl) (fun _ => by kernel_rfl),
    ob_move (fun _ => rfl) rfl rfl (fun _ => by kernel_rfl),
    ob_load (b := (L1.b 3)) (off := 0) (cs := PC ⟨0, 1⟩) (by kernel_rfl) (fun _ => by kernel_rfl) rfl rfl (fun _ => by kernel_rfl) (fun _ _ hs => (seen_at (k := 0) hs rfl).cells) Tryd.underlying26 rfl (sizePC _),
    ob_call (vs := #[PV ⟨0, 1⟩]) (by kernel_rfl) (by kernel_rfl) (fun _ => by kernel_rfl) rfl rfl (fun _ => by kernel_rfl) (fun w hb _ => bg6 K w (K.stay hg hb)),
    ob_load (b := (L4.b 5)) (off := 0) (cs := PC F2.nu) (by kernel_rfl) (fun _ => by kernel_rfl) rfl rfl (fun _ => by kernel_rfl) (fun _ _ hs => (seen_at (k := 3) hs rfl).cells) Tryd.underlying26 rfl (sizePC _),
    ob_eq (u := PV F2.nu) (v := PV F2.nu) (fun _ => by kernel_rfl) rfl rfl (fun _ => by kernel_rfl) (fun _ => by kernel_rfl) (fun w => guardP _ _ _ _ _ w) (fun w => (eqlP _ _ w).trans (by rw [decide_eq_true (rfl)]; try rfl)),
    ob_pickT (fun _ => rfl) rfl rfl (fun _ => by kernel_rfl) (fun _ => by kernel_rfl),
    ob_assign (fun _ => rfl) rfl rfl (fun _ => by kernel_rfl),
    trivial⟩ (fun L5 w6 hp6 => ?_)
  refine k6 _ _ ?_
  refine wp_ret ?_
  exact bodyPost_ret (v := .bool true) (res_t rfl (by kernel_rfl) _) rfl ⟨rfl, hp6.bel⟩
end Go.Proofs.YtgoghcmnnhglhaaDoor.fpn

/- Powers of pairs. -/
namespace Go.Proofs.YtgoghcmnnhglhaaDoor.fpn
open Go.RowKit Pl
set_option linter.unusedVariables false
set_option linter.unusedSimpArgs false
set_option maxRecDepth 4000

theorem pw_even {x y : F2} {E j : Nat} (hy : y = F2.pw2 x (E / 2 ^ (j + 1))) (hb : E / 2 ^ j % 2 = 0) : y * y = F2.pw2 x (E / 2 ^ j) := by
  rw [nat_half E j, hb, Nat.add_zero, F2.pw2_two, ← hy]
theorem pw_odd {x y : F2} {E j : Nat} (hy : y = F2.pw2 x (E / 2 ^ (j + 1))) (hb : E / 2 ^ j % 2 = 1) : y * y * x = F2.pw2 x (E / 2 ^ j) := by
  rw [nat_half E j, hb]
  show _ = F2.pw2 x (2 * (E / 2 ^ (j + 1))) * x
  rw [F2.pw2_two, ← hy]
theorem pw_less {E j : Nat} (hz : E / 2 ^ (j + 1) = 0) (hb : E / 2 ^ j % 2 = 0) : E / 2 ^ j = 0 := by
  rw [nat_half E j, hb, hz]
theorem pw_none {x y : F2} {E j : Nat} (hy : y = F2.pw2 x (E / 2 ^ (j + 1))) (hz : E / 2 ^ (j + 1) = 0) (hb : E / 2 ^ j % 2 = 0) : y = F2.pw2 x (E / 2 ^ j) := by
  rw [hy, hz, pw_less hz hb]

/-- What the two rounds of Pow keep. -/
def powJ2 (x : F2) (p : Option Addr) (n c E : Nat) (w : World) (b2 b4 : Nat) (T : Nat → Prop) : Act → World → Prop := fun a' w' => ∃ (L b5 : Nat) (y : F2) (u3 u7 u8 u9 u10 u11 u12 u13 u14 u15 u16 u17 u18 u19 u20 u21 u22 u23 u24 u25 u26 u27 u28 u29 u30 u31 u32 u33 u34 u35 u36 u37 : Value),
  a' = { tmps := #[PV x, .slice p n c, .pointer (some ⟨b2, 0, none⟩), u3, .pointer (some ⟨b4, 0, none⟩), .pointer (some ⟨b5, 0, none⟩), .int .i64 L, u7, u8, u9, u10, u11, u12, u13, u14, u15, u16, u17, u18, u19, u20, u21, u22, u23, u24, u25, u26, u27, u28, u29, u30, u31, u32, u33, u34, u35, u36, u37], defers := [] } ∧ T L ∧ L ≤ 64 * n ∧ y = F2.pw2 x (E / 2 ^ L) ∧ Heap w.heap.size w w' [(b2, PC x), (b4, PC 0), (b5, PC y)]

set_option maxHeartbeats 4000000 in
theorem fp2Pow {G : World → Prop} (K : FpK G) (x : F2) (p : Option Addr) (n c : Nat) (g : Nat → Int) (E : Nat) (w : World) (hg : G w) (hn : n ≤ 24) (he : At w p n g) (rg : Rg g n) (hE : val g n = (E : Int)) : Calls Tryd.prog 26 #[PV x, .slice p n c] w (Ret (PV (F2.pw2 x E)) w) := by
  have hp0 := Heap.start w
  go_enter Tryd.func26, Tryd.ntmps26
  refine wp_seq_k (fun K0 k0 => ?_)
  refine goes (ks := [.alloc (PC x), .alloc (PC 0)]) (T := [0, 0]) (nt := 38) (nh := 0) (H := []) (A := fun L => [PV x, .slice p n c, .pointer (some ⟨L.b 0, 0, none⟩), undef, .pointer (some ⟨L.b 1, 0, none⟩), undef, undef, undef, undef, undef, undef, undef, undef, undef, undef, undef, undef, undef, undef, undef, undef, undef, undef, undef, undef, undef, undef, undef, undef, undef, undef, undef, undef, undef, undef, undef, undef, undef]) (H' := fun L => [(L.b 0, PC x), (L.b 1, PC 0)]) (by kernel_rfl) rfl rfl rfl (fun L => by kernel_rfl) (fun L => by kernel_rfl) hp0 ⟨
    ob_box (v := PV x) (fun _ => rfl) rfl rfl (fun _ => by kernel_rfl) rfl,
    ob_alloc (v := PV 0) (fun _ => rfl) rfl rfl zeroP rfl,
    trivial⟩ (fun L0 w1 hp1 => ?_)
  refine k0 _ _ ?_
  refine wp_scope_two (powJ2 x p n c E w (L0.b 0) (L0.b 1) (fun L => E / 2 ^ L = 0)) (powJ2 x p n c E w (L0.b 0) (L0.b 1) (fun _ => True)) (fun a' _ => slot 6 a') (fun a' _ => slot 6 a') rfl rfl ?_ ?_ ?_
  · skip
    rintro a' W ⟨L, b5, y, u3, u7, u8, u9, u10, u11, u12, u13, u14, u15, u16, u17, u18, u19, u20, u21, u22, u23, u24, u25, u26, u27, u28, u29, u30, u31, u32, u33, u34, u35, u36, u37, rfl, -, hL, hy, hJ⟩
    by_cases hL0 : L = 0
    · skip
      subst hL0
      refine wp_seq_k (fun K1 k1 => ?_)
      refine wp_seq_k (fun K2 k2 => ?_)
      refine goes (ks := [.det (.int .i64 ((0 : Nat) : Int)), .det (.bool false)]) (T := [0, 1]) (nt := 38) (nh := 3) (H := [((L0.b 0), PC x), ((L0.b 1), PC 0), (b5, PC y)]) (A := fun L => [PV x, .slice p n c, .pointer (some ⟨(L0.b 0), 0, none⟩), u3, .pointer (some ⟨(L0.b 1), 0, none⟩), .pointer (some ⟨b5, 0, none⟩), .int .i64 ((0 : Nat) : Int), u7, u8, u9, u10, u11, u12, u13, u14, u15, u16, u17, u18, u19, u20, u21, u22, .int .i64 ((0 : Nat) : Int), .bool false, u25, u26, u27, u28, u29, u30, u31, u32, u33, u34, u35, u36, u37]) (H' := fun L => [((L0.b 0), PC x), ((L0.b 1), PC 0), (b5, PC y)]) (by kernel_rfl) rfl rfl rfl (fun L => by kernel_rfl) (fun L => by kernel_rfl) hJ ⟨
        ob_move (fun _ => rfl) rfl rfl (fun _ => by kernel_rfl),
        ob_bin (u := .int .i64 ((0 : Nat) : Int)) (v := .int .i64 0) (fun _ => rfl) rfl rfl (fun _ => by kernel_rfl) (fun _ => by kernel_rfl) (fun w => guardI _ _ _ _ _ _ _ _ w) (fun w => (gtrI _ _ _ w).trans (by rw [decide_eq_false (by omega)])),
        trivial⟩ (fun L1 w2 hp2 => ?_)
      refine k2 _ _ ?_
      refine wp_cond_false (by kernel_rfl) ?_
      refine skips ?_
      refine k1 _ _ ?_
      refine wp_seq_k (fun K3 k3 => ?_)
      refine goes (ks := [.det (PV y), .store (.base 1) 0 (PC y) (PC y)]) (T := [0, 1]) (nt := 38) (nh := 3) (H := [((L0.b 0), PC x), ((L0.b 1), PC 0), (b5, PC y)]) (A := fun L => [PV x, .slice p n c, .pointer (some ⟨(L0.b 0), 0, none⟩), u3, .pointer (some ⟨(L0.b 1), 0, none⟩), .pointer (some ⟨b5, 0, none⟩), .int .i64 ((0 : Nat) : Int), u7, u8, u9, u10, u11, u12, u13, u14, u15, u16, u17, u18, u19, u20, u21, u22, .int .i64 ((0 : Nat) : Int), .bool false, u25, u26, u27, u28, u29, u30, u31, u32, u33, u34, u35, u36, PV y]) (H' := fun L => [((L0.b 0), PC x), ((L0.b 1), PC y), (b5, PC y)]) (by kernel_rfl) rfl rfl rfl (fun L => by kernel_rfl) (fun L => by kernel_rfl) hp2 ⟨
        ob_load (b := b5) (off := 0) (cs := PC y) (by kernel_rfl) (fun _ => rfl) rfl rfl (fun _ => by kernel_rfl) (fun _ _ hs => (seen_at (k := 2) hs rfl).cells) Tryd.underlying26 rfl (sizePC _),
        ob_store (old := PC 0) (fun _ => rfl) rfl rfl (fun _ => by kernel_rfl) (fun _ => by kernel_rfl) rfl (sizePC _) (PC_one _) (le_len (PC_len _) (PC_len _) (by decide)) (splice_all ((PC_len _).trans (PC_len _).symm)).symm,
        trivial⟩ (fun L2 w3 hp3 => ?_)
      refine k3 _ _ ?_
      refine wp_ret ?_
      exact bodyPost_ret (v := PV y) (res_c rfl (by kernel_rfl) (hp3.bound 1 rfl).2 Tryd.underlying26 rfl (sizePC _)) rfl ⟨congrArg (fun z => Ending.returned (PV z)) (by rw [hy, Nat.pow_zero, Nat.div_one]), hp3.bel⟩
    · skip
      obtain ⟨j, rfl⟩ : ∃ j, L = j + 1 := ⟨L - 1, by omega⟩
      rcases (show E / 2 ^ j % 2 = 0 ∨ E / 2 ^ j % 2 = 1 by omega) with hb0 | hb1
      · skip
        refine wp_seq_k (fun K4 k4 => ?_)
        refine wp_seq_k (fun K5 k5 => ?_)
        refine goes (ks := [.det (.int .i64 ((j + 1 : Nat) : Int)), .det (.bool true)]) (T := [0, 1]) (nt := 38) (nh := 3) (H := [((L0.b 0), PC x), ((L0.b 1), PC 0), (b5, PC y)]) (A := fun L => [PV x, .slice p n c, .pointer (some ⟨(L0.b 0), 0, none⟩), u3, .pointer (some ⟨(L0.b 1), 0, none⟩), .pointer (some ⟨b5, 0, none⟩), .int .i64 ((j + 1 : Nat) : Int), u7, u8, u9, u10, u11, u12, u13, u14, u15, u16, u17, u18, u19, u20, u21, u22, .int .i64 ((j + 1 : Nat) : Int), .bool true, u25, u26, u27, u28, u29, u30, u31, u32, u33, u34, u35, u36, u37]) (H' := fun L => [((L0.b 0), PC x), ((L0.b 1), PC 0), (b5, PC y)]) (by kernel_rfl) rfl rfl rfl (fun L => by kernel_rfl) (fun L => by kernel_rfl) hJ ⟨
          ob_move (fun _ => rfl) rfl rfl (fun _ => by kernel_rfl),
          ob_bin (u := .int .i64 ((j + 1 : Nat) : Int)) (v := .int .i64 0) (fun _ => rfl) rfl rfl (fun _ => by kernel_rfl) (fun _ => by kernel_rfl) (fun w => guardI _ _ _ _ _ _ _ _ w) (fun w => (gtrI _ _ _ w).trans (by rw [decide_eq_true (by omega)])),
          trivial⟩ (fun L3 w4 hp4 => ?_)
        refine k5 _ _ ?_
        refine wp_cond_true (by kernel_rfl) ?_
        refine wp_seq_k (fun K6 k6 => ?_)
        refine goes (ks := [.det (.int .i64 ((j + 1 : Nat) : Int)), .det (.int .i64 (j : Int)), .det (.int .i64 (j : Int))]) (T := [0, 1, 3]) (nt := 38) (nh := 3) (H := [((L0.b 0), PC x), ((L0.b 1), PC 0), (b5, PC y)]) (A := fun L => [PV x, .slice p n c, .pointer (some ⟨(L0.b 0), 0, none⟩), u3, .pointer (some ⟨(L0.b 1), 0, none⟩), .pointer (some ⟨b5, 0, none⟩), .int .i64 (j : Int), u7, u8, u9, u10, u11, u12, u13, u14, u15, u16, u17, u18, u19, u20, u21, u22, .int .i64 ((j + 1 : Nat) : Int), .bool true, .int .i64 ((j + 1 : Nat) : Int), .int .i64 (j : Int), u27, u28, u29, u30, u31, u32, u33, u34, u35, u36, u37]) (H' := fun L => [((L0.b 0), PC x), ((L0.b 1), PC 0), (b5, PC y)]) (by kernel_rfl) rfl rfl rfl (fun L => by kernel_rfl) (fun L => by kernel_rfl) hp4 ⟨
          ob_move (fun _ => rfl) rfl rfl (fun _ => by kernel_rfl),
          ob_bin (u := .int .i64 ((j + 1 : Nat) : Int)) (v := .int .i64 1) (fun _ => rfl) rfl rfl (fun _ => by kernel_rfl) (fun _ => by kernel_rfl) (fun w => guardI _ _ _ _ _ _ _ _ w) (fun w => sub1 _ j (by omega) w),
          ob_assign (fun _ => rfl) rfl rfl (fun _ => by kernel_rfl),
          trivial⟩ (fun L4 w5 hp5 => ?_)
        refine k6 _ _ ?_
        refine wp_seq_k (fun K7 k7 => ?_)
        refine goes (ks := [.det (PV y), .det (PV y), .det (PV (y * y)), .store (.base 2) 0 (PC (y * y)) (PC (y * y))]) (T := [0, 0, 3, 7]) (nt := 38) (nh := 3) (H := [((L0.b 0), PC x), ((L0.b 1), PC 0), (b5, PC y)]) (A := fun L => [PV x, .slice p n c, .pointer (some ⟨(L0.b 0), 0, none⟩), u3, .pointer (some ⟨(L0.b 1), 0, none⟩), .pointer (some ⟨b5, 0, none⟩), .int .i64 (j : Int), u7, u8, u9, u10, u11, u12, u13, u14, u15, u16, u17, u18, u19, u20, u21, u22, .int .i64 ((j + 1 : Nat) : Int), .bool true, .int .i64 ((j + 1 : Nat) : Int), .int .i64 (j : Int), PV y, PV y, PV (y * y), u30, u31, u32, u33, u34, u35, u36, u37]) (H' := fun L => [((L0.b 0), PC x), ((L0.b 1), PC 0), (b5, PC (y * y))]) (by kernel_rfl) rfl rfl rfl (fun L => by kernel_rfl) (fun L => by kernel_rfl) hp5 ⟨
          ob_load (b := b5) (off := 0) (cs := PC y) (by kernel_rfl) (fun _ => rfl) rfl rfl (fun _ => by kernel_rfl) (fun _ _ hs => (seen_at (k := 2) hs rfl).cells) Tryd.underlying26 rfl (sizePC _),
          ob_load (b := b5) (off := 0) (cs := PC y) (by kernel_rfl) (fun _ => rfl) rfl rfl (fun _ => by kernel_rfl) (fun _ _ hs => (seen_at (k := 2) hs rfl).cells) Tryd.underlying26 rfl (sizePC _),
          ob_call (vs := #[PV y, PV y]) (by kernel_rfl) (by kernel_rfl) (fun _ => rfl) rfl rfl (fun _ => by kernel_rfl) (fun w hb _ => fp2Mul K _ _ w (K.stay hg hb)),
          ob_store (old := PC y) (fun _ => rfl) rfl rfl (fun _ => by kernel_rfl) (fun _ => by kernel_rfl) rfl (sizePC _) (PC_one _) (le_len (PC_len _) (PC_len _) (by decide)) (splice_all ((PC_len _).trans (PC_len _).symm)).symm,
          trivial⟩ (fun L5 w6 hp6 => ?_)
        refine k7 _ _ ?_
        refine wp_seq_k (fun K8 k8 => ?_)
        refine wp_seq_k (fun K9 k9 => ?_)
        refine goes (ks := [.det (.slice p n c), .det (.int .i64 (j : Int)), .det (.int .u64 0), .det (.bool false)]) (T := [0, 0, 3, 7]) (nt := 38) (nh := 3) (H := [((L0.b 0), PC x), ((L0.b 1), PC 0), (b5, PC (y * y))]) (A := fun L => [PV x, .slice p n c, .pointer (some ⟨(L0.b 0), 0, none⟩), u3, .pointer (some ⟨(L0.b 1), 0, none⟩), .pointer (some ⟨b5, 0, none⟩), .int .i64 (j : Int), u7, u8, u9, u10, u11, u12, u13, u14, u15, u16, u17, u18, u19, u20, u21, u22, .int .i64 ((j + 1 : Nat) : Int), .bool true, .int .i64 ((j + 1 : Nat) : Int), .int .i64 (j : Int), PV y, PV y, PV (y * y), .slice p n c, .int .i64 (j : Int), .int .u64 0, .bool false, u34, u35, u36, u37]) (H' := fun L => [((L0.b 0), PC x), ((L0.b 1), PC 0), (b5, PC (y * y))]) (by kernel_rfl) rfl rfl rfl (fun L => by kernel_rfl) (fun L => by kernel_rfl) hp6 ⟨
          ob_move (fun _ => rfl) rfl rfl (fun _ => by kernel_rfl),
          ob_move (fun _ => rfl) rfl rfl (fun _ => by kernel_rfl),
          ob_call (vs := #[.slice p n c, .int .i64 (j : Int)]) (by kernel_rfl) (by kernel_rfl) (fun _ => rfl) rfl rfl (fun _ => by kernel_rfl) (fun w hb _ => bitAtN p n c g E j w (by omega) (by omega) (AtK.below he hb) rg hE hb0),
          ob_eq (u := .int .u64 0) (v := .int .u64 1) (fun _ => rfl) rfl rfl (fun _ => by kernel_rfl) (fun _ => by kernel_rfl) (fun w => guardI _ _ _ _ _ _ _ _ w) (fun w => (eqlI _ _ _ _ w).trans rfl),
          trivial⟩ (fun L6 w7 hp7 => ?_)
        refine k9 _ _ ?_
        refine wp_cond_false (by kernel_rfl) ?_
        refine skips ?_
        refine k8 _ _ ?_
        refine wp_goto ?_
        exact Or.inr ⟨rfl, ⟨j, b5, (y * y), u3, u7, u8, u9, u10, u11, u12, u13, u14, u15, u16, u17, u18, u19, u20, u21, u22, .int .i64 ((j + 1 : Nat) : Int), .bool true, .int .i64 ((j + 1 : Nat) : Int), .int .i64 (j : Int), PV y, PV y, PV (y * y), .slice p n c, .int .i64 (j : Int), .int .u64 0, .bool false, u34, u35, u36, u37, rfl, trivial, by omega, pw_even hy hb0, hp7⟩, by simp [slot, intOf]⟩
      · skip
        refine wp_seq_k (fun K10 k10 => ?_)
        refine wp_seq_k (fun K11 k11 => ?_)
        refine goes (ks := [.det (.int .i64 ((j + 1 : Nat) : Int)), .det (.bool true)]) (T := [0, 1]) (nt := 38) (nh := 3) (H := [((L0.b 0), PC x), ((L0.b 1), PC 0), (b5, PC y)]) (A := fun L => [PV x, .slice p n c, .pointer (some ⟨(L0.b 0), 0, none⟩), u3, .pointer (some ⟨(L0.b 1), 0, none⟩), .pointer (some ⟨b5, 0, none⟩), .int .i64 ((j + 1 : Nat) : Int), u7, u8, u9, u10, u11, u12, u13, u14, u15, u16, u17, u18, u19, u20, u21, u22, .int .i64 ((j + 1 : Nat) : Int), .bool true, u25, u26, u27, u28, u29, u30, u31, u32, u33, u34, u35, u36, u37]) (H' := fun L => [((L0.b 0), PC x), ((L0.b 1), PC 0), (b5, PC y)]) (by kernel_rfl) rfl rfl rfl (fun L => by kernel_rfl) (fun L => by kernel_rfl) hJ ⟨
          ob_move (fun _ => rfl) rfl rfl (fun _ => by kernel_rfl),
          ob_bin (u := .int .i64 ((j + 1 : Nat) : Int)) (v := .int .i64 0) (fun _ => rfl) rfl rfl (fun _ => by kernel_rfl) (fun _ => by kernel_rfl) (fun w => guardI _ _ _ _ _ _ _ _ w) (fun w => (gtrI _ _ _ w).trans (by rw [decide_eq_true (by omega)])),
          trivial⟩ (fun L7 w8 hp8 => ?_)
        refine k11 _ _ ?_
        refine wp_cond_true (by kernel_rfl) ?_
        refine wp_seq_k (fun K12 k12 => ?_)
        refine goes (ks := [.det (.int .i64 ((j + 1 : Nat) : Int)), .det (.int .i64 (j : Int)), .det (.int .i64 (j : Int))]) (T := [0, 1, 3]) (nt := 38) (nh := 3) (H := [((L0.b 0), PC x), ((L0.b 1), PC 0), (b5, PC y)]) (A := fun L => [PV x, .slice p n c, .pointer (some ⟨(L0.b 0), 0, none⟩), u3, .pointer (some ⟨(L0.b 1), 0, none⟩), .pointer (some ⟨b5, 0, none⟩), .int .i64 (j : Int), u7, u8, u9, u10, u11, u12, u13, u14, u15, u16, u17, u18, u19, u20, u21, u22, .int .i64 ((j + 1 : Nat) : Int), .bool true, .int .i64 ((j + 1 : Nat) : Int), .int .i64 (j : Int), u27, u28, u29, u30, u31, u32, u33, u34, u35, u36, u37]) (H' := fun L => [((L0.b 0), PC x), ((L0.b 1), PC 0), (b5, PC y)]) (by kernel_rfl) rfl rfl rfl (fun L => by kernel_rfl) (fun L => by kernel_rfl) hp8 ⟨
          ob_move (fun _ => rfl) rfl rfl (fun _ => by kernel_rfl),
          ob_bin (u := .int .i64 ((j + 1 : Nat) : Int)) (v := .int .i64 1) (fun _ => rfl) rfl rfl (fun _ => by kernel_rfl) (fun _ => by kernel_rfl) (fun w => guardI _ _ _ _ _ _ _ _ w) (fun w => sub1 _ j (by omega) w),
          ob_assign (fun _ => rfl) rfl rfl (fun _ => by kernel_rfl),
          trivial⟩ (fun L8 w9 hp9 => ?_)
        refine k12 _ _ ?_
        refine wp_seq_k (fun K13 k13 => ?_)
        refine goes (ks := [.det (PV y), .det (PV y), .det (PV (y * y)), .store (.base 2) 0 (PC (y * y)) (PC (y * y))]) (T := [0, 0, 3, 7]) (nt := 38) (nh := 3) (H := [((L0.b 0), PC x), ((L0.b 1), PC 0), (b5, PC y)]) (A := fun L => [PV x, .slice p n c, .pointer (some ⟨(L0.b 0), 0, none⟩), u3, .pointer (some ⟨(L0.b 1), 0, none⟩), .pointer (some ⟨b5, 0, none⟩), .int .i64 (j : Int), u7, u8, u9, u10, u11, u12, u13, u14, u15, u16, u17, u18, u19, u20, u21, u22, .int .i64 ((j + 1 : Nat) : Int), .bool true, .int .i64 ((j + 1 : Nat) : Int), .int .i64 (j : Int), PV y, PV y, PV (y * y), u30, u31, u32, u33, u34, u35, u36, u37]) (H' := fun L => [((L0.b 0), PC x), ((L0.b 1), PC 0), (b5, PC (y * y))]) (by kernel_rfl) rfl rfl rfl (fun L => by kernel_rfl) (fun L => by kernel_rfl) hp9 ⟨
          ob_load (b := b5) (off := 0) (cs := PC y) (by kernel_rfl) (fun _ => rfl) rfl rfl (fun _ => by kernel_rfl) (fun _ _ hs => (seen_at (k := 2) hs rfl).cells) Tryd.underlying26 rfl (sizePC _),
          ob_load (b := b5) (off := 0) (cs := PC y) (by kernel_rfl) (fun _ => rfl) rfl rfl (fun _ => by kernel_rfl) (fun _ _ hs => (seen_at (k := 2) hs rfl).cells) Tryd.underlying26 rfl (sizePC _),
          ob_call (vs := #[PV y, PV y]) (by kernel_rfl) (by kernel_rfl) (fun _ => rfl) rfl rfl (fun _ => by kernel_rfl) (fun w hb _ => fp2Mul K _ _ w (K.stay hg hb)),
          ob_store (old := PC y) (fun _ => rfl) rfl rfl (fun _ => by kernel_rfl) (fun _ => by kernel_rfl) rfl (sizePC _) (PC_one _) (le_len (PC_len _) (PC_len _) (by decide)) (splice_all ((PC_len _).trans (PC_len _).symm)).symm,
          trivial⟩ (fun L9 w10 hp10 => ?_)
        refine k13 _ _ ?_
        refine wp_seq_k (fun K14 k14 => ?_)
        refine wp_seq_k (fun K15 k15 => ?_)
        refine goes (ks := [.det (.slice p n c), .det (.int .i64 (j : Int)), .det (.int .u64 1), .det (.bool true)]) (T := [0, 0, 3, 7]) (nt := 38) (nh := 3) (H := [((L0.b 0), PC x), ((L0.b 1), PC 0), (b5, PC (y * y))]) (A := fun L => [PV x, .slice p n c, .pointer (some ⟨(L0.b 0), 0, none⟩), u3, .pointer (some ⟨(L0.b 1), 0, none⟩), .pointer (some ⟨b5, 0, none⟩), .int .i64 (j : Int), u7, u8, u9, u10, u11, u12, u13, u14, u15, u16, u17, u18, u19, u20, u21, u22, .int .i64 ((j + 1 : Nat) : Int), .bool true, .int .i64 ((j + 1 : Nat) : Int), .int .i64 (j : Int), PV y, PV y, PV (y * y), .slice p n c, .int .i64 (j : Int), .int .u64 1, .bool true, u34, u35, u36, u37]) (H' := fun L => [((L0.b 0), PC x), ((L0.b 1), PC 0), (b5, PC (y * y))]) (by kernel_rfl) rfl rfl rfl (fun L => by kernel_rfl) (fun L => by kernel_rfl) hp10 ⟨
          ob_move (fun _ => rfl) rfl rfl (fun _ => by kernel_rfl),
          ob_move (fun _ => rfl) rfl rfl (fun _ => by kernel_rfl),
          ob_call (vs := #[.slice p n c, .int .i64 (j : Int)]) (by kernel_rfl) (by kernel_rfl) (fun _ => rfl) rfl rfl (fun _ => by kernel_rfl) (fun w hb _ => bitAtN p n c g E j w (by omega) (by omega) (AtK.below he hb) rg hE hb1),
          ob_eq (u := .int .u64 1) (v := .int .u64 1) (fun _ => rfl) rfl rfl (fun _ => by kernel_rfl) (fun _ => by kernel_rfl) (fun w => guardI _ _ _ _ _ _ _ _ w) (fun w => (eqlI _ _ _ _ w).trans rfl),
          trivial⟩ (fun L10 w11 hp11 => ?_)
        refine k15 _ _ ?_
        refine wp_cond_true (by kernel_rfl) ?_
        refine goes (ks := [.det (PV (y * y)), .det (PV x), .det (PV ((y * y) * x)), .store (.base 2) 0 (PC ((y * y) * x)) (PC ((y * y) * x))]) (T := [0, 0, 3, 7]) (nt := 38) (nh := 3) (H := [((L0.b 0), PC x), ((L0.b 1), PC 0), (b5, PC (y * y))]) (A := fun L => [PV x, .slice p n c, .pointer (some ⟨(L0.b 0), 0, none⟩), u3, .pointer (some ⟨(L0.b 1), 0, none⟩), .pointer (some ⟨b5, 0, none⟩), .int .i64 (j : Int), u7, u8, u9, u10, u11, u12, u13, u14, u15, u16, u17, u18, u19, u20, u21, u22, .int .i64 ((j + 1 : Nat) : Int), .bool true, .int .i64 ((j + 1 : Nat) : Int), .int .i64 (j : Int), PV y, PV y, PV (y * y), .slice p n c, .int .i64 (j : Int), .int .u64 1, .bool true, PV (y * y), PV x, PV ((y * y) * x), u37]) (H' := fun L => [((L0.b 0), PC x), ((L0.b 1), PC 0), (b5, PC ((y * y) * x))]) (by kernel_rfl) rfl rfl rfl (fun L => by kernel_rfl) (fun L => by kernel_rfl) hp11 ⟨
          ob_load (b := b5) (off := 0) (cs := PC (y * y)) (by kernel_rfl) (fun _ => rfl) rfl rfl (fun _ => by kernel_rfl) (fun _ _ hs => (seen_at (k := 2) hs rfl).cells) Tryd.underlying26 rfl (sizePC _),
          ob_load (b := (L0.b 0)) (off := 0) (cs := PC x) (by kernel_rfl) (fun _ => rfl) rfl rfl (fun _ => by kernel_rfl) (fun _ _ hs => (seen_at (k := 0) hs rfl).cells) Tryd.underlying26 rfl (sizePC _),
          ob_call (vs := #[PV (y * y), PV x]) (by kernel_rfl) (by kernel_rfl) (fun _ => rfl) rfl rfl (fun _ => by kernel_rfl) (fun w hb _ => fp2Mul K _ _ w (K.stay hg hb)),
          ob_store (old := PC (y * y)) (fun _ => rfl) rfl rfl (fun _ => by kernel_rfl) (fun _ => by kernel_rfl) rfl (sizePC _) (PC_one _) (le_len (PC_len _) (PC_len _) (by decide)) (splice_all ((PC_len _).trans (PC_len _).symm)).symm,
          trivial⟩ (fun L11 w12 hp12 => ?_)
        refine k14 _ _ ?_
        refine wp_goto ?_
        exact Or.inr ⟨rfl, ⟨j, b5, ((y * y) * x), u3, u7, u8, u9, u10, u11, u12, u13, u14, u15, u16, u17, u18, u19, u20, u21, u22, .int .i64 ((j + 1 : Nat) : Int), .bool true, .int .i64 ((j + 1 : Nat) : Int), .int .i64 (j : Int), PV y, PV y, PV (y * y), .slice p n c, .int .i64 (j : Int), .int .u64 1, .bool true, PV (y * y), PV x, PV ((y * y) * x), u37, rfl, trivial, by omega, pw_odd hy hb1, hp12⟩, by simp [slot, intOf]⟩
  · skip
    rintro hr a' W ⟨L, b5, y, u3, u7, u8, u9, u10, u11, u12, u13, u14, u15, u16, u17, u18, u19, u20, u21, u22, u23, u24, u25, u26, u27, u28, u29, u30, u31, u32, u33, u34, u35, u36, u37, rfl, hz, hL, hy, hJ⟩
    by_cases hL0 : L = 0
    · skip
      subst hL0
      refine wp_seq_k (fun K16 k16 => ?_)
      refine wp_seq_k (fun K17 k17 => ?_)
      refine goes (ks := [.det (.int .i64 ((0 : Nat) : Int)), .det (.bool false), .det (.bool false), .det undef, .det undef, .det undef, .det undef, .det undef, .det (.bool false)]) (T := [0, 1, 3, 7, 7, 23, 63, 127, 255]) (nt := 38) (nh := 3) (H := [((L0.b 0), PC x), ((L0.b 1), PC 0), (b5, PC y)]) (A := fun L => [PV x, .slice p n c, .pointer (some ⟨(L0.b 0), 0, none⟩), u3, .pointer (some ⟨(L0.b 1), 0, none⟩), .pointer (some ⟨b5, 0, none⟩), .int .i64 ((0 : Nat) : Int), u7, u8, u9, u10, u11, .int .i64 ((0 : Nat) : Int), .bool false, .bool false, undef, undef, undef, undef, undef, .bool false, u21, u22, u23, u24, u25, u26, u27, u28, u29, u30, u31, u32, u33, u34, u35, u36, u37]) (H' := fun L => [((L0.b 0), PC x), ((L0.b 1), PC 0), (b5, PC y)]) (by kernel_rfl) rfl rfl rfl (fun L => by kernel_rfl) (fun L => by kernel_rfl) hJ ⟨
        ob_move (fun _ => rfl) rfl rfl (fun _ => by kernel_rfl),
        ob_bin (u := .int .i64 ((0 : Nat) : Int)) (v := .int .i64 0) (fun _ => rfl) rfl rfl (fun _ => by kernel_rfl) (fun _ => by kernel_rfl) (fun w => guardI _ _ _ _ _ _ _ _ w) (fun w => (gtrI _ _ _ w).trans (by rw [decide_eq_false (by omega)])),
        ob_move (fun _ => rfl) rfl rfl (fun _ => by kernel_rfl),
        ob_skip (fun _ => by kernel_rfl) rfl,
        ob_skip (fun _ => by kernel_rfl) rfl,
        ob_skip (fun _ => by kernel_rfl) rfl,
        ob_skip (fun _ => by kernel_rfl) rfl,
        ob_skip (fun _ => by kernel_rfl) rfl,
        ob_pickF (fun _ => rfl) rfl rfl (fun _ => by kernel_rfl) (fun _ => by kernel_rfl),
        trivial⟩ (fun L12 w13 hp13 => ?_)
      refine k17 _ _ ?_
      refine wp_cond_false (by kernel_rfl) ?_
      refine skips ?_
      refine k16 _ _ ?_
      refine wp_seq_k (fun K18 k18 => ?_)
      refine wp_label ?_
      exact k18 _ _ (hr _ _ _ ⟨0, b5, y, u3, u7, u8, u9, u10, u11, .int .i64 ((0 : Nat) : Int), .bool false, .bool false, undef, undef, undef, undef, undef, .bool false, u21, u22, u23, u24, u25, u26, u27, u28, u29, u30, u31, u32, u33, u34, u35, u36, u37, rfl, trivial, hL, hy, hp13⟩)
    · skip
      obtain ⟨j, rfl⟩ : ∃ j, L = j + 1 := ⟨L - 1, by omega⟩
      rcases (show E / 2 ^ j % 2 = 0 ∨ E / 2 ^ j % 2 = 1 by omega) with hb0 | hb1
      · skip
        refine wp_seq_k (fun K19 k19 => ?_)
        refine wp_seq_k (fun K20 k20 => ?_)
        refine goes (ks := [.det (.int .i64 ((j + 1 : Nat) : Int)), .det (.bool true), .det (.bool true), .det (.slice p n c), .det (.int .i64 ((j + 1 : Nat) : Int)), .det (.int .i64 (j : Int)), .det (.int .u64 0), .det (.bool true), .det (.bool true)]) (T := [0, 1, 3, 7, 7, 23, 63, 127, 255]) (nt := 38) (nh := 3) (H := [((L0.b 0), PC x), ((L0.b 1), PC 0), (b5, PC y)]) (A := fun L => [PV x, .slice p n c, .pointer (some ⟨(L0.b 0), 0, none⟩), u3, .pointer (some ⟨(L0.b 1), 0, none⟩), .pointer (some ⟨b5, 0, none⟩), .int .i64 ((j + 1 : Nat) : Int), u7, u8, u9, u10, u11, .int .i64 ((j + 1 : Nat) : Int), .bool true, .bool true, .slice p n c, .int .i64 ((j + 1 : Nat) : Int), .int .i64 (j : Int), .int .u64 0, .bool true, .bool true, u21, u22, u23, u24, u25, u26, u27, u28, u29, u30, u31, u32, u33, u34, u35, u36, u37]) (H' := fun L => [((L0.b 0), PC x), ((L0.b 1), PC 0), (b5, PC y)]) (by kernel_rfl) rfl rfl rfl (fun L => by kernel_rfl) (fun L => by kernel_rfl) hJ ⟨
          ob_move (fun _ => rfl) rfl rfl (fun _ => by kernel_rfl),
          ob_bin (u := .int .i64 ((j + 1 : Nat) : Int)) (v := .int .i64 0) (fun _ => rfl) rfl rfl (fun _ => by kernel_rfl) (fun _ => by kernel_rfl) (fun w => guardI _ _ _ _ _ _ _ _ w) (fun w => (gtrI _ _ _ w).trans (by rw [decide_eq_true (by omega)])),
          ob_move (fun _ => rfl) rfl rfl (fun _ => by kernel_rfl),
          ob_move (fun _ => by kernel_rfl) rfl rfl (fun _ => by kernel_rfl),
          ob_move (fun _ => by kernel_rfl) rfl rfl (fun _ => by kernel_rfl),
          ob_bin (u := .int .i64 ((j + 1 : Nat) : Int)) (v := .int .i64 1) (fun _ => by kernel_rfl) rfl rfl (fun _ => by kernel_rfl) (fun _ => by kernel_rfl) (fun w => guardI _ _ _ _ _ _ _ _ w) (fun w => sub1 _ j (by omega) w),
          ob_call (vs := #[.slice p n c, .int .i64 (j : Int)]) (by kernel_rfl) (by kernel_rfl) (fun _ => by kernel_rfl) rfl rfl (fun _ => by kernel_rfl) (fun w hb _ => bitAtN p n c g E j w (by omega) (by omega) (AtK.below he hb) rg hE hb0),
          ob_eq (u := .int .u64 0) (v := .int .u64 0) (fun _ => by kernel_rfl) rfl rfl (fun _ => by kernel_rfl) (fun _ => by kernel_rfl) (fun w => guardI _ _ _ _ _ _ _ _ w) (fun w => (eqlI _ _ _ _ w).trans rfl),
          ob_pickT (fun _ => rfl) rfl rfl (fun _ => by kernel_rfl) (fun _ => by kernel_rfl),
          trivial⟩ (fun L13 w14 hp14 => ?_)
        refine k20 _ _ ?_
        refine wp_cond_true (by kernel_rfl) ?_
        refine wp_seq_k (fun K21 k21 => ?_)
        refine goes (ks := [.det (.int .i64 ((j + 1 : Nat) : Int)), .det (.int .i64 (j : Int)), .det (.int .i64 (j : Int))]) (T := [0, 1, 3]) (nt := 38) (nh := 3) (H := [((L0.b 0), PC x), ((L0.b 1), PC 0), (b5, PC y)]) (A := fun L => [PV x, .slice p n c, .pointer (some ⟨(L0.b 0), 0, none⟩), u3, .pointer (some ⟨(L0.b 1), 0, none⟩), .pointer (some ⟨b5, 0, none⟩), .int .i64 (j : Int), u7, u8, u9, u10, u11, .int .i64 ((j + 1 : Nat) : Int), .bool true, .bool true, .slice p n c, .int .i64 ((j + 1 : Nat) : Int), .int .i64 (j : Int), .int .u64 0, .bool true, .bool true, .int .i64 ((j + 1 : Nat) : Int), .int .i64 (j : Int), u23, u24, u25, u26, u27, u28, u29, u30, u31, u32, u33, u34, u35, u36, u37]) (H' := fun L => [((L0.b 0), PC x), ((L0.b 1), PC 0), (b5, PC y)]) (by kernel_rfl) rfl rfl rfl (fun L => by kernel_rfl) (fun L => by kernel_rfl) hp14 ⟨
          ob_move (fun _ => rfl) rfl rfl (fun _ => by kernel_rfl),
          ob_bin (u := .int .i64 ((j + 1 : Nat) : Int)) (v := .int .i64 1) (fun _ => rfl) rfl rfl (fun _ => by kernel_rfl) (fun _ => by kernel_rfl) (fun w => guardI _ _ _ _ _ _ _ _ w) (fun w => sub1 _ j (by omega) w),
          ob_assign (fun _ => rfl) rfl rfl (fun _ => by kernel_rfl),
          trivial⟩ (fun L14 w15 hp15 => ?_)
        refine k21 _ _ ?_
        refine wp_goto ?_
        exact Or.inl ⟨rfl, ⟨j, b5, y, u3, u7, u8, u9, u10, u11, .int .i64 ((j + 1 : Nat) : Int), .bool true, .bool true, .slice p n c, .int .i64 ((j + 1 : Nat) : Int), .int .i64 (j : Int), .int .u64 0, .bool true, .bool true, .int .i64 ((j + 1 : Nat) : Int), .int .i64 (j : Int), u23, u24, u25, u26, u27, u28, u29, u30, u31, u32, u33, u34, u35, u36, u37, rfl, pw_less hz hb0, by omega, pw_none hy hz hb0, hp15⟩, by simp [slot, intOf]⟩
      · skip
        refine wp_seq_k (fun K22 k22 => ?_)
        refine wp_seq_k (fun K23 k23 => ?_)
        refine goes (ks := [.det (.int .i64 ((j + 1 : Nat) : Int)), .det (.bool true), .det (.bool true), .det (.slice p n c), .det (.int .i64 ((j + 1 : Nat) : Int)), .det (.int .i64 (j : Int)), .det (.int .u64 1), .det (.bool false), .det (.bool false)]) (T := [0, 1, 3, 7, 7, 23, 63, 127, 255]) (nt := 38) (nh := 3) (H := [((L0.b 0), PC x), ((L0.b 1), PC 0), (b5, PC y)]) (A := fun L => [PV x, .slice p n c, .pointer (some ⟨(L0.b 0), 0, none⟩), u3, .pointer (some ⟨(L0.b 1), 0, none⟩), .pointer (some ⟨b5, 0, none⟩), .int .i64 ((j + 1 : Nat) : Int), u7, u8, u9, u10, u11, .int .i64 ((j + 1 : Nat) : Int), .bool true, .bool true, .slice p n c, .int .i64 ((j + 1 : Nat) : Int), .int .i64 (j : Int), .int .u64 1, .bool false, .bool false, u21, u22, u23, u24, u25, u26, u27, u28, u29, u30, u31, u32, u33, u34, u35, u36, u37]) (H' := fun L => [((L0.b 0), PC x), ((L0.b 1), PC 0), (b5, PC y)]) (by kernel_rfl) rfl rfl rfl (fun L => by kernel_rfl) (fun L => by kernel_rfl) hJ ⟨
          ob_move (fun _ => rfl) rfl rfl (fun _ => by kernel_rfl),
          ob_bin (u := .int .i64 ((j + 1 : Nat) : Int)) (v := .int .i64 0) (fun _ => rfl) rfl rfl (fun _ => by kernel_rfl) (fun _ => by kernel_rfl) (fun w => guardI _ _ _ _ _ _ _ _ w) (fun w => (gtrI _ _ _ w).trans (by rw [decide_eq_true (by omega)])),
          ob_move (fun _ => rfl) rfl rfl (fun _ => by kernel_rfl),
          ob_move (fun _ => by kernel_rfl) rfl rfl (fun _ => by kernel_rfl),
          ob_move (fun _ => by kernel_rfl) rfl rfl (fun _ => by kernel_rfl),
          ob_bin (u := .int .i64 ((j + 1 : Nat) : Int)) (v := .int .i64 1) (fun _ => by kernel_rfl) rfl rfl (fun _ => by kernel_rfl) (fun _ => by kernel_rfl) (fun w => guardI _ _ _ _ _ _ _ _ w) (fun w => sub1 _ j (by omega) w),
          ob_call (vs := #[.slice p n c, .int .i64 (j : Int)]) (by kernel_rfl) (by kernel_rfl) (fun _ => by kernel_rfl) rfl rfl (fun _ => by kernel_rfl) (fun w hb _ => bitAtN p n c g E j w (by omega) (by omega) (AtK.below he hb) rg hE hb1),
          ob_eq (u := .int .u64 1) (v := .int .u64 0) (fun _ => by kernel_rfl) rfl rfl (fun _ => by kernel_rfl) (fun _ => by kernel_rfl) (fun w => guardI _ _ _ _ _ _ _ _ w) (fun w => (eqlI _ _ _ _ w).trans rfl),
          ob_pickT (fun _ => rfl) rfl rfl (fun _ => by kernel_rfl) (fun _ => by kernel_rfl),
          trivial⟩ (fun L15 w16 hp16 => ?_)
        refine k23 _ _ ?_
        refine wp_cond_false (by kernel_rfl) ?_
        refine skips ?_
        refine k22 _ _ ?_
        refine wp_seq_k (fun K24 k24 => ?_)
        refine wp_label ?_
        exact k24 _ _ (hr _ _ _ ⟨(j + 1), b5, y, u3, u7, u8, u9, u10, u11, .int .i64 ((j + 1 : Nat) : Int), .bool true, .bool true, .slice p n c, .int .i64 ((j + 1 : Nat) : Int), .int .i64 (j : Int), .int .u64 1, .bool false, .bool false, u21, u22, u23, u24, u25, u26, u27, u28, u29, u30, u31, u32, u33, u34, u35, u36, u37, rfl, trivial, hL, hy, hp16⟩)
  · skip
    intro hr
    refine wp_seq_k (fun K25 k25 => ?_)
    refine goes (ks := [.det (FV 1), .det (PV ⟨1, 0⟩), .alloc (PC 0), .store (.new 2) 0 (PC ⟨1, 0⟩) (PC ⟨1, 0⟩)]) (T := [0, 1, 0, 7]) (nt := 38) (nh := 2) (H := [((L0.b 0), PC x), ((L0.b 1), PC 0)]) (A := fun L => [PV x, .slice p n c, .pointer (some ⟨(L0.b 0), 0, none⟩), undef, .pointer (some ⟨(L0.b 1), 0, none⟩), .pointer (some ⟨L.b 2, 0, none⟩), undef, FV 1, PV ⟨1, 0⟩, undef, undef, undef, undef, undef, undef, undef, undef, undef, undef, undef, undef, undef, undef, undef, undef, undef, undef, undef, undef, undef, undef, undef, undef, undef, undef, undef, undef, undef]) (H' := fun L => [((L0.b 0), PC x), ((L0.b 1), PC 0), (L.b 2, PC ⟨1, 0⟩)]) (by kernel_rfl) rfl rfl rfl (fun L => by kernel_rfl) (fun L => by kernel_rfl) hp1 ⟨
      ob_call (vs := #[.int .u64 1]) (by kernel_rfl) (by kernel_rfl) (fun _ => rfl) rfl rfl (fun _ => by kernel_rfl) (fun w hb _ => K.of1 w (K.stay hg hb)),
      ob_build (qs := #[(0, FV 1)]) (fun _ => rfl) rfl rfl (fun _ => by kernel_rfl) (buildPa _),
      ob_alloc (v := PV 0) (fun _ => rfl) rfl rfl zeroP rfl,
      ob_store (old := PC 0) (fun _ => rfl) rfl rfl (fun _ => by kernel_rfl) (fun _ => by kernel_rfl) rfl (sizePC _) (PC_one _) (le_len (PC_len _) (PC_len _) (by decide)) (splice_all ((PC_len _).trans (PC_len _).symm)).symm,
      trivial⟩ (fun L16 w17 hp17 => ?_)
    refine k25 _ _ ?_
    refine wp_seq_k (fun K26 k26 => ?_)
    refine goes (ks := [.det (.slice p n c), .det (.int .i64 n), .det (.int .i64 ((64 * n : Nat) : Int)), .det (.int .i64 ((64 * n : Nat) : Int))]) (T := [0, 1, 3, 7]) (nt := 38) (nh := 3) (H := [((L0.b 0), PC x), ((L0.b 1), PC 0), ((L16.b 2), PC ⟨1, 0⟩)]) (A := fun L => [PV x, .slice p n c, .pointer (some ⟨(L0.b 0), 0, none⟩), undef, .pointer (some ⟨(L0.b 1), 0, none⟩), .pointer (some ⟨(L16.b 2), 0, none⟩), .int .i64 ((64 * n : Nat) : Int), FV 1, PV ⟨1, 0⟩, .slice p n c, .int .i64 n, .int .i64 ((64 * n : Nat) : Int), undef, undef, undef, undef, undef, undef, undef, undef, undef, undef, undef, undef, undef, undef, undef, undef, undef, undef, undef, undef, undef, undef, undef, undef, undef, undef]) (H' := fun L => [((L0.b 0), PC x), ((L0.b 1), PC 0), ((L16.b 2), PC ⟨1, 0⟩)]) (by kernel_rfl) rfl rfl rfl (fun L => by kernel_rfl) (fun L => by kernel_rfl) hp17 ⟨
      ob_move (fun _ => rfl) rfl rfl (fun _ => by kernel_rfl),
      ob_len (p := p) (n := n) (c := c) (fun _ => rfl) rfl rfl (fun _ => by kernel_rfl) Tryd.underlying35,
      ob_bin (u := .int .i64 64) (v := .int .i64 n) (fun _ => rfl) rfl rfl (fun _ => by kernel_rfl) (fun _ => by kernel_rfl) (fun w => guardI _ _ _ _ _ _ _ _ w) (fun w => mul64 _ n (by omega) w),
      ob_assign (fun _ => rfl) rfl rfl (fun _ => by kernel_rfl),
      trivial⟩ (fun L17 w18 hp18 => ?_)
    refine k26 _ _ ?_
    refine wp_seq_k (fun K27 k27 => ?_)
    refine wp_label ?_
    exact k27 _ _ (hr _ _ ⟨64 * n, (L16.b 2), ⟨1, 0⟩, undef, FV 1, PV ⟨1, 0⟩, .slice p n c, .int .i64 n, .int .i64 ((64 * n : Nat) : Int), undef, undef, undef, undef, undef, undef, undef, undef, undef, undef, undef, undef, undef, undef, undef, undef, undef, undef, undef, undef, undef, undef, undef, undef, undef, undef, rfl, nat_top rg hE, Nat.le_refl _, by rw [nat_top rg hE]; rfl, hp18⟩)
/-- What the rounds of Pow2 keep. -/
def powI2 (x : F2) (p : Option Addr) (n c E : Nat) (w : World) (b2 b4 b5 : Nat) : Nat → Act → World → Prop := fun L a' w' => ∃ (y : F2) (u3 u7 u8 u9 u10 u11 u12 u13 u14 u15 u16 u17 u18 u19 u20 u21 u22 u23 u24 u25 : Value),
  a' = { tmps := #[PV x, .slice p n c, .pointer (some ⟨b2, 0, none⟩), u3, .pointer (some ⟨b4, 0, none⟩), .pointer (some ⟨b5, 0, none⟩), .int .i64 ((L : Int) - 1), u7, u8, u9, u10, u11, u12, u13, u14, u15, u16, u17, u18, u19, u20, u21, u22, u23, u24, u25], defers := [] } ∧ L ≤ 64 * n ∧ y = F2.pw2 x (E / 2 ^ L) ∧ Heap w.heap.size w w' [(b2, PC x), (b4, PC 0), (b5, PC y)]

set_option maxHeartbeats 4000000 in
theorem ref5Pow2 (R : RefK) (x : F2) (p : Option Addr) (n c : Nat) (g : Nat → Int) (E : Nat) (w : World) (hn : n ≤ 24) (he : At w p n g) (rg : Rg g n) (hE : val g n = (E : Int)) : Calls Tryd.prog 27 #[PV x, .slice p n c] w (Ret (PV (F2.pw2 x E)) w) := by
  have hp0 := Heap.start w
  go_enter Tryd.func27, Tryd.ntmps27
  refine wp_seq_k (fun K1 k1 => ?_)
  refine goes (ks := [.alloc (PC x), .alloc (PC 0)]) (T := [0, 0]) (nt := 26) (nh := 0) (H := []) (A := fun L => [PV x, .slice p n c, .pointer (some ⟨L.b 0, 0, none⟩), undef, .pointer (some ⟨L.b 1, 0, none⟩), undef, undef, undef, undef, undef, undef, undef, undef, undef, undef, undef, undef, undef, undef, undef, undef, undef, undef, undef, undef, undef]) (H' := fun L => [(L.b 0, PC x), (L.b 1, PC 0)]) (by kernel_rfl) rfl rfl rfl (fun L => by kernel_rfl) (fun L => by kernel_rfl) hp0 ⟨
    ob_box (v := PV x) (fun _ => rfl) rfl rfl (fun _ => by kernel_rfl) rfl,
    ob_alloc (v := PV 0) (fun _ => rfl) rfl rfl zeroP rfl,
    trivial⟩ (fun L0 w1 hp1 => ?_)
  refine k1 _ _ ?_
  refine wp_seq_k (fun K2 k2 => ?_)
  refine goes (ks := [.det (PV 1), .alloc (PC 0), .store (.new 1) 0 (PC 1) (PC 1)]) (T := [0, 0, 3]) (nt := 26) (nh := 2) (H := [((L0.b 0), PC x), ((L0.b 1), PC 0)]) (A := fun L => [PV x, .slice p n c, .pointer (some ⟨(L0.b 0), 0, none⟩), undef, .pointer (some ⟨(L0.b 1), 0, none⟩), .pointer (some ⟨L.b 1, 0, none⟩), undef, PV 1, undef, undef, undef, undef, undef, undef, undef, undef, undef, undef, undef, undef, undef, undef, undef, undef, undef, undef]) (H' := fun L => [((L0.b 0), PC x), ((L0.b 1), PC 0), (L.b 1, PC 1)]) (by kernel_rfl) rfl rfl rfl (fun L => by kernel_rfl) (fun L => by kernel_rfl) hp1 ⟨
    ob_call (vs := #[]) (by kernel_rfl) (by kernel_rfl) (fun _ => rfl) rfl rfl (fun _ => by kernel_rfl) (fun w _ _ => ref5one2 R w),
    ob_alloc (v := PV 0) (fun _ => rfl) rfl rfl zeroP rfl,
    ob_store (old := PC 0) (fun _ => rfl) rfl rfl (fun _ => by kernel_rfl) (fun _ => by kernel_rfl) rfl (sizePC _) (PC_one _) (le_len (PC_len _) (PC_len _) (by decide)) (splice_all ((PC_len _).trans (PC_len _).symm)).symm,
    trivial⟩ (fun L1 w2 hp2 => ?_)
  refine k2 _ _ ?_
  refine wp_seq_k (fun K3 k3 => ?_)
  refine wp_seq_k (fun K4 k4 => ?_)
  refine goes (ks := [.det (.slice p n c), .det (.int .i64 n), .det (.int .i64 ((64 * n : Nat) : Int)), .det (.int .i64 (((64 * n : Nat) : Int) - 1)), .det (.int .i64 (((64 * n : Nat) : Int) - 1))]) (T := [0, 1, 3, 7, 15]) (nt := 26) (nh := 3) (H := [((L0.b 0), PC x), ((L0.b 1), PC 0), ((L1.b 1), PC 1)]) (A := fun L => [PV x, .slice p n c, .pointer (some ⟨(L0.b 0), 0, none⟩), undef, .pointer (some ⟨(L0.b 1), 0, none⟩), .pointer (some ⟨(L1.b 1), 0, none⟩), .int .i64 (((64 * n : Nat) : Int) - 1), PV 1, .slice p n c, .int .i64 n, .int .i64 ((64 * n : Nat) : Int), .int .i64 (((64 * n : Nat) : Int) - 1), undef, undef, undef, undef, undef, undef, undef, undef, undef, undef, undef, undef, undef, undef]) (H' := fun L => [((L0.b 0), PC x), ((L0.b 1), PC 0), ((L1.b 1), PC 1)]) (by kernel_rfl) rfl rfl rfl (fun L => by kernel_rfl) (fun L => by kernel_rfl) hp2 ⟨
    ob_move (fun _ => rfl) rfl rfl (fun _ => by kernel_rfl),
    ob_len (p := p) (n := n) (c := c) (fun _ => rfl) rfl rfl (fun _ => by kernel_rfl) Tryd.underlying35,
    ob_bin (u := .int .i64 64) (v := .int .i64 n) (fun _ => rfl) rfl rfl (fun _ => by kernel_rfl) (fun _ => by kernel_rfl) (fun w => guardI _ _ _ _ _ _ _ _ w) (fun w => mul64 _ n (by omega) w),
    ob_bin (u := .int .i64 ((64 * n : Nat) : Int)) (v := .int .i64 1) (fun _ => rfl) rfl rfl (fun _ => by kernel_rfl) (fun _ => by kernel_rfl) (fun w => guardI _ _ _ _ _ _ _ _ w) (fun w => sub3 _ (64 * n) (by omega) w),
    ob_assign (fun _ => rfl) rfl rfl (fun _ => by kernel_rfl),
    trivial⟩ (fun L2 w3 hp3 => ?_)
  refine k4 _ _ ?_
  refine wp_block_k (fun K5 k5 => ?_)
  refine wp_loop_ghost (powI2 x p n c E w (L0.b 0) (L0.b 1) (L1.b 1)) (64 * n) ⟨1, undef, PV 1, .slice p n c, .int .i64 n, .int .i64 ((64 * n : Nat) : Int), .int .i64 (((64 * n : Nat) : Int) - 1), undef, undef, undef, undef, undef, undef, undef, undef, undef, undef, undef, undef, undef, undef, rfl, Nat.le_refl _, by rw [nat_top rg hE]; rfl, hp3⟩ ?_
  rintro L a' W ⟨y, u3, u7, u8, u9, u10, u11, u12, u13, u14, u15, u16, u17, u18, u19, u20, u21, u22, u23, u24, u25, rfl, hL, hy, hJ⟩
  by_cases hL0 : L = 0
  rotate_left
  · skip
    obtain ⟨j, rfl⟩ : ∃ j, L = j + 1 := ⟨L - 1, by omega⟩
    rw [show (((j + 1 : Nat) : Int) - 1) = (j : Int) by omega]
    rcases (show E / 2 ^ j % 2 = 0 ∨ E / 2 ^ j % 2 = 1 by omega) with hb0 | hb1
    · skip
      refine wp_seq_k (fun K6 k6 => ?_)
      refine wp_seq_k (fun K7 k7 => ?_)
      refine goes (ks := [.det (.int .i64 (j : Int)), .det (.bool true)]) (T := [0, 1]) (nt := 26) (nh := 3) (H := [((L0.b 0), PC x), ((L0.b 1), PC 0), ((L1.b 1), PC y)]) (A := fun L => [PV x, .slice p n c, .pointer (some ⟨(L0.b 0), 0, none⟩), u3, .pointer (some ⟨(L0.b 1), 0, none⟩), .pointer (some ⟨(L1.b 1), 0, none⟩), .int .i64 (j : Int), u7, u8, u9, u10, u11, .int .i64 (j : Int), .bool true, u14, u15, u16, u17, u18, u19, u20, u21, u22, u23, u24, u25]) (H' := fun L => [((L0.b 0), PC x), ((L0.b 1), PC 0), ((L1.b 1), PC y)]) (by kernel_rfl) rfl rfl rfl (fun L => by kernel_rfl) (fun L => by kernel_rfl) hJ ⟨
        ob_move (fun _ => rfl) rfl rfl (fun _ => by kernel_rfl),
        ob_bin (u := .int .i64 (j : Int)) (v := .int .i64 0) (fun _ => rfl) rfl rfl (fun _ => by kernel_rfl) (fun _ => by kernel_rfl) (fun w => guardI _ _ _ _ _ _ _ _ w) (fun w => (geqI _ _ _ w).trans (by rw [decide_eq_true (by omega)])),
        trivial⟩ (fun L3 w4 hp4 => ?_)
      refine k7 _ _ ?_
      refine wp_cond_true (by kernel_rfl) ?_
      refine skips ?_
      refine k6 _ _ ?_
      refine wp_seq_k (fun K8 k8 => ?_)
      refine wp_block_k (fun K9 k9 => ?_)
      refine wp_seq_k (fun K10 k10 => ?_)
      refine goes (ks := [.det (PV y), .det (PV y), .det (PV (y * y)), .store (.base 2) 0 (PC (y * y)) (PC (y * y))]) (T := [0, 0, 3, 7]) (nt := 26) (nh := 3) (H := [((L0.b 0), PC x), ((L0.b 1), PC 0), ((L1.b 1), PC y)]) (A := fun L => [PV x, .slice p n c, .pointer (some ⟨(L0.b 0), 0, none⟩), u3, .pointer (some ⟨(L0.b 1), 0, none⟩), .pointer (some ⟨(L1.b 1), 0, none⟩), .int .i64 (j : Int), u7, u8, u9, u10, u11, .int .i64 (j : Int), .bool true, u14, u15, PV y, PV y, PV (y * y), u19, u20, u21, u22, u23, u24, u25]) (H' := fun L => [((L0.b 0), PC x), ((L0.b 1), PC 0), ((L1.b 1), PC (y * y))]) (by kernel_rfl) rfl rfl rfl (fun L => by kernel_rfl) (fun L => by kernel_rfl) hp4 ⟨
        ob_load (b := (L1.b 1)) (off := 0) (cs := PC y) (by kernel_rfl) (fun _ => rfl) rfl rfl (fun _ => by kernel_rfl) (fun _ _ hs => (seen_at (k := 2) hs rfl).cells) Tryd.underlying26 rfl (sizePC _),
        ob_load (b := (L1.b 1)) (off := 0) (cs := PC y) (by kernel_rfl) (fun _ => rfl) rfl rfl (fun _ => by kernel_rfl) (fun _ _ hs => (seen_at (k := 2) hs rfl).cells) Tryd.underlying26 rfl (sizePC _),
        ob_call (vs := #[PV y, PV y]) (by kernel_rfl) (by kernel_rfl) (fun _ => rfl) rfl rfl (fun _ => by kernel_rfl) (fun w _ _ => ref5Mul2 R _ _ w),
        ob_store (old := PC y) (fun _ => rfl) rfl rfl (fun _ => by kernel_rfl) (fun _ => by kernel_rfl) rfl (sizePC _) (PC_one _) (le_len (PC_len _) (PC_len _) (by decide)) (splice_all ((PC_len _).trans (PC_len _).symm)).symm,
        trivial⟩ (fun L4 w5 hp5 => ?_)
      refine k10 _ _ ?_
      refine wp_seq_k (fun K11 k11 => ?_)
      refine goes (ks := [.det (.slice p n c), .det (.int .i64 (j : Int)), .det (.bool false)]) (T := [0, 0, 3]) (nt := 26) (nh := 3) (H := [((L0.b 0), PC x), ((L0.b 1), PC 0), ((L1.b 1), PC (y * y))]) (A := fun L => [PV x, .slice p n c, .pointer (some ⟨(L0.b 0), 0, none⟩), u3, .pointer (some ⟨(L0.b 1), 0, none⟩), .pointer (some ⟨(L1.b 1), 0, none⟩), .int .i64 (j : Int), u7, u8, u9, u10, u11, .int .i64 (j : Int), .bool true, u14, u15, PV y, PV y, PV (y * y), .slice p n c, .int .i64 (j : Int), .bool false, u22, u23, u24, u25]) (H' := fun L => [((L0.b 0), PC x), ((L0.b 1), PC 0), ((L1.b 1), PC (y * y))]) (by kernel_rfl) rfl rfl rfl (fun L => by kernel_rfl) (fun L => by kernel_rfl) hp5 ⟨
        ob_move (fun _ => rfl) rfl rfl (fun _ => by kernel_rfl),
        ob_move (fun _ => rfl) rfl rfl (fun _ => by kernel_rfl),
        ob_call (vs := #[.slice p n c, .int .i64 (j : Int)]) (by kernel_rfl) (by kernel_rfl) (fun _ => rfl) rfl rfl (fun _ => by kernel_rfl) (fun w hb _ => bitRN p n c g E j w (by omega) (by omega) (AtK.below he hb) rg hE (by rw [hb0]; rfl)),
        trivial⟩ (fun L5 w6 hp6 => ?_)
      refine k11 _ _ ?_
      refine wp_cond_false (by kernel_rfl) ?_
      refine skips ?_
      refine k9 _ _ _ ?_
      refine block_normal ?_
      refine k8 _ _ ?_
      refine goes (ks := [.det (.int .i64 (j : Int)), .det (.int .i64 ((j : Int) - 1)), .det (.int .i64 ((j : Int) - 1))]) (T := [0, 1, 3]) (nt := 26) (nh := 3) (H := [((L0.b 0), PC x), ((L0.b 1), PC 0), ((L1.b 1), PC (y * y))]) (A := fun L => [PV x, .slice p n c, .pointer (some ⟨(L0.b 0), 0, none⟩), u3, .pointer (some ⟨(L0.b 1), 0, none⟩), .pointer (some ⟨(L1.b 1), 0, none⟩), .int .i64 ((j : Int) - 1), u7, u8, u9, u10, u11, .int .i64 (j : Int), .bool true, .int .i64 (j : Int), .int .i64 ((j : Int) - 1), PV y, PV y, PV (y * y), .slice p n c, .int .i64 (j : Int), .bool false, u22, u23, u24, u25]) (H' := fun L => [((L0.b 0), PC x), ((L0.b 1), PC 0), ((L1.b 1), PC (y * y))]) (by kernel_rfl) rfl rfl rfl (fun L => by kernel_rfl) (fun L => by kernel_rfl) hp6 ⟨
        ob_move (fun _ => rfl) rfl rfl (fun _ => by kernel_rfl),
        ob_bin (u := .int .i64 (j : Int)) (v := .int .i64 1) (fun _ => rfl) rfl rfl (fun _ => by kernel_rfl) (fun _ => by kernel_rfl) (fun w => guardI _ _ _ _ _ _ _ _ w) (fun w => sub3 _ j (by omega) w),
        ob_assign (fun _ => rfl) rfl rfl (fun _ => by kernel_rfl),
        trivial⟩ (fun L6 w7 hp7 => ?_)
      exact ⟨j, Nat.lt_succ_self _, (y * y), u3, u7, u8, u9, u10, u11, .int .i64 (j : Int), .bool true, .int .i64 (j : Int), .int .i64 ((j : Int) - 1), PV y, PV y, PV (y * y), .slice p n c, .int .i64 (j : Int), .bool false, u22, u23, u24, u25, rfl, by omega, pw_even hy hb0, hp7⟩
    · skip
      refine wp_seq_k (fun K12 k12 => ?_)
      refine wp_seq_k (fun K13 k13 => ?_)
      refine goes (ks := [.det (.int .i64 (j : Int)), .det (.bool true)]) (T := [0, 1]) (nt := 26) (nh := 3) (H := [((L0.b 0), PC x), ((L0.b 1), PC 0), ((L1.b 1), PC y)]) (A := fun L => [PV x, .slice p n c, .pointer (some ⟨(L0.b 0), 0, none⟩), u3, .pointer (some ⟨(L0.b 1), 0, none⟩), .pointer (some ⟨(L1.b 1), 0, none⟩), .int .i64 (j : Int), u7, u8, u9, u10, u11, .int .i64 (j : Int), .bool true, u14, u15, u16, u17, u18, u19, u20, u21, u22, u23, u24, u25]) (H' := fun L => [((L0.b 0), PC x), ((L0.b 1), PC 0), ((L1.b 1), PC y)]) (by kernel_rfl) rfl rfl rfl (fun L => by kernel_rfl) (fun L => by kernel_rfl) hJ ⟨
        ob_move (fun _ => rfl) rfl rfl (fun _ => by kernel_rfl),
        ob_bin (u := .int .i64 (j : Int)) (v := .int .i64 0) (fun _ => rfl) rfl rfl (fun _ => by kernel_rfl) (fun _ => by kernel_rfl) (fun w => guardI _ _ _ _ _ _ _ _ w) (fun w => (geqI _ _ _ w).trans (by rw [decide_eq_true (by omega)])),
        trivial⟩ (fun L7 w8 hp8 => ?_)
      refine k13 _ _ ?_
      refine wp_cond_true (by kernel_rfl) ?_
      refine skips ?_
      refine k12 _ _ ?_
      refine wp_seq_k (fun K14 k14 => ?_)
      refine wp_block_k (fun K15 k15 => ?_)
      refine wp_seq_k (fun K16 k16 => ?_)
      refine goes (ks := [.det (PV y), .det (PV y), .det (PV (y * y)), .store (.base 2) 0 (PC (y * y)) (PC (y * y))]) (T := [0, 0, 3, 7]) (nt := 26) (nh := 3) (H := [((L0.b 0), PC x), ((L0.b 1), PC 0), ((L1.b 1), PC y)]) (A := fun L => [PV x, .slice p n c, .pointer (some ⟨(L0.b 0), 0, none⟩), u3, .pointer (some ⟨(L0.b 1), 0, none⟩), .pointer (some ⟨(L1.b 1), 0, none⟩), .int .i64 (j : Int), u7, u8, u9, u10, u11, .int .i64 (j : Int), .bool true, u14, u15, PV y, PV y, PV (y * y), u19, u20, u21, u22, u23, u24, u25]) (H' := fun L => [((L0.b 0), PC x), ((L0.b 1), PC 0), ((L1.b 1), PC (y * y))]) (by kernel_rfl) rfl rfl rfl (fun L => by kernel_rfl) (fun L => by kernel_rfl) hp8 ⟨
        ob_load (b := (L1.b 1)) (off := 0) (cs := PC y) (by kernel_rfl) (fun _ => rfl) rfl rfl (fun _ => by kernel_rfl) (fun _ _ hs => (seen_at (k := 2) hs rfl).cells) Tryd.underlying26 rfl (sizePC _),
        ob_load (b := (L1.b 1)) (off := 0) (cs := PC y) (by kernel_rfl) (fun _ => rfl) rfl rfl (fun _ => by kernel_rfl) (fun _ _ hs => (seen_at (k := 2) hs rfl).cells) Tryd.underlying26 rfl (sizePC _),
        ob_call (vs := #[PV y, PV y]) (by kernel_rfl) (by kernel_rfl) (fun _ => rfl) rfl rfl (fun _ => by kernel_rfl) (fun w _ _ => ref5Mul2 R _ _ w),
        ob_store (old := PC y) (fun _ => rfl) rfl rfl (fun _ => by kernel_rfl) (fun _ => by kernel_rfl) rfl (sizePC _) (PC_one _) (le_len (PC_len _) (PC_len _) (by decide)) (splice_all ((PC_len _).trans (PC_len _).symm)).symm,
        trivial⟩ (fun L8 w9 hp9 => ?_)
      refine k16 _ _ ?_
      refine wp_seq_k (fun K17 k17 => ?_)
      refine goes (ks := [.det (.slice p n c), .det (.int .i64 (j : Int)), .det (.bool true)]) (T := [0, 0, 3]) (nt := 26) (nh := 3) (H := [((L0.b 0), PC x), ((L0.b 1), PC 0), ((L1.b 1), PC (y * y))]) (A := fun L => [PV x, .slice p n c, .pointer (some ⟨(L0.b 0), 0, none⟩), u3, .pointer (some ⟨(L0.b 1), 0, none⟩), .pointer (some ⟨(L1.b 1), 0, none⟩), .int .i64 (j : Int), u7, u8, u9, u10, u11, .int .i64 (j : Int), .bool true, u14, u15, PV y, PV y, PV (y * y), .slice p n c, .int .i64 (j : Int), .bool true, u22, u23, u24, u25]) (H' := fun L => [((L0.b 0), PC x), ((L0.b 1), PC 0), ((L1.b 1), PC (y * y))]) (by kernel_rfl) rfl rfl rfl (fun L => by kernel_rfl) (fun L => by kernel_rfl) hp9 ⟨
        ob_move (fun _ => rfl) rfl rfl (fun _ => by kernel_rfl),
        ob_move (fun _ => rfl) rfl rfl (fun _ => by kernel_rfl),
        ob_call (vs := #[.slice p n c, .int .i64 (j : Int)]) (by kernel_rfl) (by kernel_rfl) (fun _ => rfl) rfl rfl (fun _ => by kernel_rfl) (fun w hb _ => bitRN p n c g E j w (by omega) (by omega) (AtK.below he hb) rg hE (by rw [hb1]; rfl)),
        trivial⟩ (fun L9 w10 hp10 => ?_)
      refine k17 _ _ ?_
      refine wp_cond_true (by kernel_rfl) ?_
      refine goes (ks := [.det (PV (y * y)), .det (PV x), .det (PV ((y * y) * x)), .store (.base 2) 0 (PC ((y * y) * x)) (PC ((y * y) * x))]) (T := [0, 0, 3, 7]) (nt := 26) (nh := 3) (H := [((L0.b 0), PC x), ((L0.b 1), PC 0), ((L1.b 1), PC (y * y))]) (A := fun L => [PV x, .slice p n c, .pointer (some ⟨(L0.b 0), 0, none⟩), u3, .pointer (some ⟨(L0.b 1), 0, none⟩), .pointer (some ⟨(L1.b 1), 0, none⟩), .int .i64 (j : Int), u7, u8, u9, u10, u11, .int .i64 (j : Int), .bool true, u14, u15, PV y, PV y, PV (y * y), .slice p n c, .int .i64 (j : Int), .bool true, PV (y * y), PV x, PV ((y * y) * x), u25]) (H' := fun L => [((L0.b 0), PC x), ((L0.b 1), PC 0), ((L1.b 1), PC ((y * y) * x))]) (by kernel_rfl) rfl rfl rfl (fun L => by kernel_rfl) (fun L => by kernel_rfl) hp10 ⟨
        ob_load (b := (L1.b 1)) (off := 0) (cs := PC (y * y)) (by kernel_rfl) (fun _ => rfl) rfl rfl (fun _ => by kernel_rfl) (fun _ _ hs => (seen_at (k := 2) hs rfl).cells) Tryd.underlying26 rfl (sizePC _),
        ob_load (b := (L0.b 0)) (off := 0) (cs := PC x) (by kernel_rfl) (fun _ => rfl) rfl rfl (fun _ => by kernel_rfl) (fun _ _ hs => (seen_at (k := 0) hs rfl).cells) Tryd.underlying26 rfl (sizePC _),
        ob_call (vs := #[PV (y * y), PV x]) (by kernel_rfl) (by kernel_rfl) (fun _ => rfl) rfl rfl (fun _ => by kernel_rfl) (fun w _ _ => ref5Mul2 R _ _ w),
        ob_store (old := PC (y * y)) (fun _ => rfl) rfl rfl (fun _ => by kernel_rfl) (fun _ => by kernel_rfl) rfl (sizePC _) (PC_one _) (le_len (PC_len _) (PC_len _) (by decide)) (splice_all ((PC_len _).trans (PC_len _).symm)).symm,
        trivial⟩ (fun L10 w11 hp11 => ?_)
      refine k15 _ _ _ ?_
      refine block_normal ?_
      refine k14 _ _ ?_
      refine goes (ks := [.det (.int .i64 (j : Int)), .det (.int .i64 ((j : Int) - 1)), .det (.int .i64 ((j : Int) - 1))]) (T := [0, 1, 3]) (nt := 26) (nh := 3) (H := [((L0.b 0), PC x), ((L0.b 1), PC 0), ((L1.b 1), PC ((y * y) * x))]) (A := fun L => [PV x, .slice p n c, .pointer (some ⟨(L0.b 0), 0, none⟩), u3, .pointer (some ⟨(L0.b 1), 0, none⟩), .pointer (some ⟨(L1.b 1), 0, none⟩), .int .i64 ((j : Int) - 1), u7, u8, u9, u10, u11, .int .i64 (j : Int), .bool true, .int .i64 (j : Int), .int .i64 ((j : Int) - 1), PV y, PV y, PV (y * y), .slice p n c, .int .i64 (j : Int), .bool true, PV (y * y), PV x, PV ((y * y) * x), u25]) (H' := fun L => [((L0.b 0), PC x), ((L0.b 1), PC 0), ((L1.b 1), PC ((y * y) * x))]) (by kernel_rfl) rfl rfl rfl (fun L => by kernel_rfl) (fun L => by kernel_rfl) hp11 ⟨
        ob_move (fun _ => rfl) rfl rfl (fun _ => by kernel_rfl),
        ob_bin (u := .int .i64 (j : Int)) (v := .int .i64 1) (fun _ => rfl) rfl rfl (fun _ => by kernel_rfl) (fun _ => by kernel_rfl) (fun w => guardI _ _ _ _ _ _ _ _ w) (fun w => sub3 _ j (by omega) w),
        ob_assign (fun _ => rfl) rfl rfl (fun _ => by kernel_rfl),
        trivial⟩ (fun L11 w12 hp12 => ?_)
      exact ⟨j, Nat.lt_succ_self _, ((y * y) * x), u3, u7, u8, u9, u10, u11, .int .i64 (j : Int), .bool true, .int .i64 (j : Int), .int .i64 ((j : Int) - 1), PV y, PV y, PV (y * y), .slice p n c, .int .i64 (j : Int), .bool true, PV (y * y), PV x, PV ((y * y) * x), u25, rfl, by omega, pw_odd hy hb1, hp12⟩
  subst hL0
  refine wp_seq_k (fun K18 k18 => ?_)
  refine wp_seq_k (fun K19 k19 => ?_)
  refine goes (ks := [.det (.int .i64 (((0 : Nat) : Int) - 1)), .det (.bool false)]) (T := [0, 1]) (nt := 26) (nh := 3) (H := [((L0.b 0), PC x), ((L0.b 1), PC 0), ((L1.b 1), PC y)]) (A := fun L => [PV x, .slice p n c, .pointer (some ⟨(L0.b 0), 0, none⟩), u3, .pointer (some ⟨(L0.b 1), 0, none⟩), .pointer (some ⟨(L1.b 1), 0, none⟩), .int .i64 (((0 : Nat) : Int) - 1), u7, u8, u9, u10, u11, .int .i64 (((0 : Nat) : Int) - 1), .bool false, u14, u15, u16, u17, u18, u19, u20, u21, u22, u23, u24, u25]) (H' := fun L => [((L0.b 0), PC x), ((L0.b 1), PC 0), ((L1.b 1), PC y)]) (by kernel_rfl) rfl rfl rfl (fun L => by kernel_rfl) (fun L => by kernel_rfl) hJ ⟨
    ob_move (fun _ => rfl) rfl rfl (fun _ => by kernel_rfl),
    ob_bin (u := .int .i64 (((0 : Nat) : Int) - 1)) (v := .int .i64 0) (fun _ => rfl) rfl rfl (fun _ => by kernel_rfl) (fun _ => by kernel_rfl) (fun w => guardI _ _ _ _ _ _ _ _ w) (fun w => (geqI _ _ _ w).trans (by rw [decide_eq_false (by omega)])),
    trivial⟩ (fun L12 w13 hp13 => ?_)
  refine k19 _ _ ?_
  refine wp_cond_false (by kernel_rfl) ?_
  refine wp_exit ?_
  refine then_exit ?_
  refine then_exit ?_
  refine k5 _ _ _ ?_
  refine exit_in ?_
  refine k3 _ _ ?_
  refine wp_seq_k (fun K20 k20 => ?_)
  refine goes (ks := [.det (PV y), .store (.base 1) 0 (PC y) (PC y)]) (T := [0, 1]) (nt := 26) (nh := 3) (H := [((L0.b 0), PC x), ((L0.b 1), PC 0), ((L1.b 1), PC y)]) (A := fun L => [PV x, .slice p n c, .pointer (some ⟨(L0.b 0), 0, none⟩), u3, .pointer (some ⟨(L0.b 1), 0, none⟩), .pointer (some ⟨(L1.b 1), 0, none⟩), .int .i64 (((0 : Nat) : Int) - 1), u7, u8, u9, u10, u11, .int .i64 (((0 : Nat) : Int) - 1), .bool false, u14, u15, u16, u17, u18, u19, u20, u21, u22, u23, u24, PV y]) (H' := fun L => [((L0.b 0), PC x), ((L0.b 1), PC y), ((L1.b 1), PC y)]) (by kernel_rfl) rfl rfl rfl (fun L => by kernel_rfl) (fun L => by kernel_rfl) hp13 ⟨
    ob_load (b := (L1.b 1)) (off := 0) (cs := PC y) (by kernel_rfl) (fun _ => rfl) rfl rfl (fun _ => by kernel_rfl) (fun _ _ hs => (seen_at (k := 2) hs rfl).cells) Tryd.underlying26 rfl (sizePC _),
    ob_store (old := PC 0) (fun _ => rfl) rfl rfl (fun _ => by kernel_rfl) (fun _ => by kernel_rfl) rfl (sizePC _) (PC_one _) (le_len (PC_len _) (PC_len _) (by decide)) (splice_all ((PC_len _).trans (PC_len _).symm)).symm,
    trivial⟩ (fun L13 w14 hp14 => ?_)
  refine k20 _ _ ?_
  refine wp_ret ?_
  exact bodyPost_ret (v := PV y) (res_c rfl (by kernel_rfl) (hp14.bound 1 rfl).2 Tryd.underlying26 rfl (sizePC _)) rfl ⟨congrArg (fun z => Ending.returned (PV z)) (by rw [hy, Nat.pow_zero, Nat.div_one]), hp14.bel⟩
end Go.Proofs.YtgoghcmnnhglhaaDoor.fpn
