/- IB. -/
import Derived.Test.YtgoghcmnnhglhaaDoorGE
import Derived.Test.YtgoghcmnnhglhaaDoorGC
/- The reference's pairs. -/
namespace Go.Proofs.YtgoghcmnnhglhaaDoor.fpn
open Go.RowKit Pl
set_option linter.unusedVariables false
set_option linter.unusedSimpArgs false
set_option maxRecDepth 4000

set_option maxHeartbeats 4000000 in
theorem ref5Add2 (R : RefK) (x y : F2) (w : World) : Calls Tryd.prog 13 #[PV x, PV y] w (Ret (PV (x + y)) w) := by
  have hp0 := Heap.start w
  go_enter Tryd.func13, Tryd.ntmps13
  refine wp_seq_k (fun K1 k1 => ?_)
  refine goes (ks := [.alloc (PC x), .alloc (PC y), .alloc (PC 0)]) (T := [0, 0, 0]) (nt := 16) (nh := 0) (H := []) (A := fun L => [PV x, PV y, .pointer (some ⟨L.b 0, 0, none⟩), .pointer (some ⟨L.b 1, 0, none⟩), .pointer (some ⟨L.b 2, 0, none⟩), undef, undef, undef, undef, undef, undef, undef, undef, undef, undef, undef]) (H' := fun L => [(L.b 0, PC x), (L.b 1, PC y), (L.b 2, PC 0)]) (by kernel_rfl) rfl rfl rfl (fun L => by kernel_rfl) (fun L => by kernel_rfl) hp0 ⟨
    ob_box (v := PV x) (fun _ => rfl) rfl rfl (fun _ => by kernel_rfl) rfl,
    ob_box (v := PV y) (fun _ => rfl) rfl rfl (fun _ => by kernel_rfl) rfl,
    ob_alloc (v := PV 0) (fun _ => rfl) rfl rfl zeroP rfl,
    trivial⟩ (fun L0 w1 hp1 => ?_)
  refine k1 _ _ ?_
  refine wp_seq_k (fun K2 k2 => ?_)
  refine draws (by kernel_rfl) (ks := [.det (.pointer (some ⟨(L0.b 0), 0, none⟩)), .det (FV x.c0), .det (.pointer (some ⟨(L0.b 1), 0, none⟩)), .det (FV y.c0), .det (FV ((x.c0 + y.c0))), .det (.pointer (some ⟨(L0.b 0), 6, none⟩)), .det (FV x.c1), .det (.pointer (some ⟨(L0.b 1), 6, none⟩)), .det (FV y.c1), .det (FV ((x.c1 + y.c1))), .det (PV (⟨(x.c0 + y.c0), (x.c1 + y.c1)⟩)), .store (.base 2) 0 (PC (⟨(x.c0 + y.c0), (x.c1 + y.c1)⟩)) (PC (⟨(x.c0 + y.c0), (x.c1 + y.c1)⟩))]) (T := [0, 1, 0, 4, 15, 0, 32, 0, 128, 511, 1023, 2047]) (nt := 16) (nh := 3) (H := [((L0.b 0), PC x), ((L0.b 1), PC y), ((L0.b 2), PC 0)]) (A := fun L => [PV x, PV y, .pointer (some ⟨(L0.b 0), 0, none⟩), .pointer (some ⟨(L0.b 1), 0, none⟩), .pointer (some ⟨(L0.b 2), 0, none⟩), .pointer (some ⟨(L0.b 0), 0, none⟩), FV x.c0, .pointer (some ⟨(L0.b 1), 0, none⟩), FV y.c0, FV ((x.c0 + y.c0)), .pointer (some ⟨(L0.b 0), 6, none⟩), FV x.c1, .pointer (some ⟨(L0.b 1), 6, none⟩), FV y.c1, FV ((x.c1 + y.c1)), PV (⟨(x.c0 + y.c0), (x.c1 + y.c1)⟩)]) (H' := fun L => [((L0.b 0), PC x), ((L0.b 1), PC y), ((L0.b 2), PC (⟨(x.c0 + y.c0), (x.c1 + y.c1)⟩))]) (by kernel_rfl) rfl rfl rfl (fun L => by kernel_rfl) (fun L => by kernel_rfl) hp1 ⟨
    ob_index (b := (L0.b 0)) (off := 0) (k := 0) (sz := 6) (n := 2) (fun _ => rfl) rfl rfl (fun _ => by kernel_rfl) (fun _ => by kernel_rfl) Tryd.underlying26 sizeF (by decide) rfl,
    ob_load (b := (L0.b 0)) (off := 0) (cs := FC x.c0) (by kernel_rfl) (fun _ => rfl) rfl rfl (fun _ => by kernel_rfl) (fun _ _ hs => partF2_0 (seen_at (k := 0) hs rfl)) Tryd.underlying24 rfl (sizeFC _),
    ob_index (b := (L0.b 1)) (off := 0) (k := 0) (sz := 6) (n := 2) (fun _ => rfl) rfl rfl (fun _ => by kernel_rfl) (fun _ => by kernel_rfl) Tryd.underlying26 sizeF (by decide) rfl,
    ob_load (b := (L0.b 1)) (off := 0) (cs := FC y.c0) (by kernel_rfl) (fun _ => rfl) rfl rfl (fun _ => by kernel_rfl) (fun _ _ hs => partF2_0 (seen_at (k := 1) hs rfl)) Tryd.underlying24 rfl (sizeFC _),
    ob_call (vs := #[FV x.c0, FV y.c0]) (by kernel_rfl) (by kernel_rfl) (fun _ => rfl) rfl rfl (fun _ => by kernel_rfl) (fun w _ _ => R.add _ _ w trivial),
    ob_index (b := (L0.b 0)) (off := 0) (k := 1) (sz := 6) (n := 2) (fun _ => rfl) rfl rfl (fun _ => by kernel_rfl) (fun _ => by kernel_rfl) Tryd.underlying26 sizeF (by decide) rfl,
    ob_load (b := (L0.b 0)) (off := 6) (cs := FC x.c1) (by kernel_rfl) (fun _ => rfl) rfl rfl (fun _ => by kernel_rfl) (fun _ _ hs => partF2_1 (seen_at (k := 0) hs rfl)) Tryd.underlying24 rfl (sizeFC _),
    ob_index (b := (L0.b 1)) (off := 0) (k := 1) (sz := 6) (n := 2) (fun _ => rfl) rfl rfl (fun _ => by kernel_rfl) (fun _ => by kernel_rfl) Tryd.underlying26 sizeF (by decide) rfl,
    ob_load (b := (L0.b 1)) (off := 6) (cs := FC y.c1) (by kernel_rfl) (fun _ => rfl) rfl rfl (fun _ => by kernel_rfl) (fun _ _ hs => partF2_1 (seen_at (k := 1) hs rfl)) Tryd.underlying24 rfl (sizeFC _),
    ob_call (vs := #[FV x.c1, FV y.c1]) (by kernel_rfl) (by kernel_rfl) (fun _ => rfl) rfl rfl (fun _ => by kernel_rfl) (fun w _ _ => R.add _ _ w trivial),
    ob_build (qs := #[(0, FV ((x.c0 + y.c0))), (1, FV ((x.c1 + y.c1)))]) (fun _ => rfl) rfl rfl (fun _ => by kernel_rfl) (buildP _ _),
    ob_store (old := PC 0) (fun _ => rfl) rfl rfl (fun _ => by kernel_rfl) (fun _ => by kernel_rfl) rfl (sizePC _) (PC_one _) (le_len (PC_len _) (PC_len _) (by decide)) (splice_all ((PC_len _).trans (PC_len _).symm)).symm,
    trivial⟩ (fun L1 w2 hp2 => ?_)
  refine k2 _ _ ?_
  refine wp_ret ?_
  exact bodyPost_ret (v := PV (⟨(x.c0 + y.c0), (x.c1 + y.c1)⟩)) (res_c rfl (by kernel_rfl) (hp2.bound 2 rfl).2 Tryd.underlying26 rfl (sizePC _)) rfl ⟨rfl, hp2.bel⟩
set_option maxHeartbeats 4000000 in
theorem ref5Sub2 (R : RefK) (x y : F2) (w : World) : Calls Tryd.prog 15 #[PV x, PV y] w (Ret (PV (x - y)) w) := by
  have hp0 := Heap.start w
  go_enter Tryd.func15, Tryd.ntmps15
  refine wp_seq_k (fun K1 k1 => ?_)
  refine goes (ks := [.alloc (PC x), .alloc (PC y), .alloc (PC 0)]) (T := [0, 0, 0]) (nt := 16) (nh := 0) (H := []) (A := fun L => [PV x, PV y, .pointer (some ⟨L.b 0, 0, none⟩), .pointer (some ⟨L.b 1, 0, none⟩), .pointer (some ⟨L.b 2, 0, none⟩), undef, undef, undef, undef, undef, undef, undef, undef, undef, undef, undef]) (H' := fun L => [(L.b 0, PC x), (L.b 1, PC y), (L.b 2, PC 0)]) (by kernel_rfl) rfl rfl rfl (fun L => by kernel_rfl) (fun L => by kernel_rfl) hp0 ⟨
    ob_box (v := PV x) (fun _ => rfl) rfl rfl (fun _ => by kernel_rfl) rfl,
    ob_box (v := PV y) (fun _ => rfl) rfl rfl (fun _ => by kernel_rfl) rfl,
    ob_alloc (v := PV 0) (fun _ => rfl) rfl rfl zeroP rfl,
    trivial⟩ (fun L0 w1 hp1 => ?_)
  refine k1 _ _ ?_
  refine wp_seq_k (fun K2 k2 => ?_)
  refine draws (by kernel_rfl) (ks := [.det (.pointer (some ⟨(L0.b 0), 0, none⟩)), .det (FV x.c0), .det (.pointer (some ⟨(L0.b 1), 0, none⟩)), .det (FV y.c0), .det (FV ((x.c0 - y.c0))), .det (.pointer (some ⟨(L0.b 0), 6, none⟩)), .det (FV x.c1), .det (.pointer (some ⟨(L0.b 1), 6, none⟩)), .det (FV y.c1), .det (FV ((x.c1 - y.c1))), .det (PV (⟨(x.c0 - y.c0), (x.c1 - y.c1)⟩)), .store (.base 2) 0 (PC (⟨(x.c0 - y.c0), (x.c1 - y.c1)⟩)) (PC (⟨(x.c0 - y.c0), (x.c1 - y.c1)⟩))]) (T := [0, 1, 0, 4, 15, 0, 32, 0, 128, 511, 1023, 2047]) (nt := 16) (nh := 3) (H := [((L0.b 0), PC x), ((L0.b 1), PC y), ((L0.b 2), PC 0)]) (A := fun L => [PV x, PV y, .pointer (some ⟨(L0.b 0), 0, none⟩), .pointer (some ⟨(L0.b 1), 0, none⟩), .pointer (some ⟨(L0.b 2), 0, none⟩), .pointer (some ⟨(L0.b 0), 0, none⟩), FV x.c0, .pointer (some ⟨(L0.b 1), 0, none⟩), FV y.c0, FV ((x.c0 - y.c0)), .pointer (some ⟨(L0.b 0), 6, none⟩), FV x.c1, .pointer (some ⟨(L0.b 1), 6, none⟩), FV y.c1, FV ((x.c1 - y.c1)), PV (⟨(x.c0 - y.c0), (x.c1 - y.c1)⟩)]) (H' := fun L => [((L0.b 0), PC x), ((L0.b 1), PC y), ((L0.b 2), PC (⟨(x.c0 - y.c0), (x.c1 - y.c1)⟩))]) (by kernel_rfl) rfl rfl rfl (fun L => by kernel_rfl) (fun L => by kernel_rfl) hp1 ⟨
    ob_index (b := (L0.b 0)) (off := 0) (k := 0) (sz := 6) (n := 2) (fun _ => rfl) rfl rfl (fun _ => by kernel_rfl) (fun _ => by kernel_rfl) Tryd.underlying26 sizeF (by decide) rfl,
    ob_load (b := (L0.b 0)) (off := 0) (cs := FC x.c0) (by kernel_rfl) (fun _ => rfl) rfl rfl (fun _ => by kernel_rfl) (fun _ _ hs => partF2_0 (seen_at (k := 0) hs rfl)) Tryd.underlying24 rfl (sizeFC _),
    ob_index (b := (L0.b 1)) (off := 0) (k := 0) (sz := 6) (n := 2) (fun _ => rfl) rfl rfl (fun _ => by kernel_rfl) (fun _ => by kernel_rfl) Tryd.underlying26 sizeF (by decide) rfl,
    ob_load (b := (L0.b 1)) (off := 0) (cs := FC y.c0) (by kernel_rfl) (fun _ => rfl) rfl rfl (fun _ => by kernel_rfl) (fun _ _ hs => partF2_0 (seen_at (k := 1) hs rfl)) Tryd.underlying24 rfl (sizeFC _),
    ob_call (vs := #[FV x.c0, FV y.c0]) (by kernel_rfl) (by kernel_rfl) (fun _ => rfl) rfl rfl (fun _ => by kernel_rfl) (fun w _ _ => R.sub _ _ w trivial),
    ob_index (b := (L0.b 0)) (off := 0) (k := 1) (sz := 6) (n := 2) (fun _ => rfl) rfl rfl (fun _ => by kernel_rfl) (fun _ => by kernel_rfl) Tryd.underlying26 sizeF (by decide) rfl,
    ob_load (b := (L0.b 0)) (off := 6) (cs := FC x.c1) (by kernel_rfl) (fun _ => rfl) rfl rfl (fun _ => by kernel_rfl) (fun _ _ hs => partF2_1 (seen_at (k := 0) hs rfl)) Tryd.underlying24 rfl (sizeFC _),
    ob_index (b := (L0.b 1)) (off := 0) (k := 1) (sz := 6) (n := 2) (fun _ => rfl) rfl rfl (fun _ => by kernel_rfl) (fun _ => by kernel_rfl) Tryd.underlying26 sizeF (by decide) rfl,
    ob_load (b := (L0.b 1)) (off := 6) (cs := FC y.c1) (by kernel_rfl) (fun _ => rfl) rfl rfl (fun _ => by kernel_rfl) (fun _ _ hs => partF2_1 (seen_at (k := 1) hs rfl)) Tryd.underlying24 rfl (sizeFC _),
    ob_call (vs := #[FV x.c1, FV y.c1]) (by kernel_rfl) (by kernel_rfl) (fun _ => rfl) rfl rfl (fun _ => by kernel_rfl) (fun w _ _ => R.sub _ _ w trivial),
    ob_build (qs := #[(0, FV ((x.c0 - y.c0))), (1, FV ((x.c1 - y.c1)))]) (fun _ => rfl) rfl rfl (fun _ => by kernel_rfl) (buildP _ _),
    ob_store (old := PC 0) (fun _ => rfl) rfl rfl (fun _ => by kernel_rfl) (fun _ => by kernel_rfl) rfl (sizePC _) (PC_one _) (le_len (PC_len _) (PC_len _) (by decide)) (splice_all ((PC_len _).trans (PC_len _).symm)).symm,
    trivial⟩ (fun L1 w2 hp2 => ?_)
  refine k2 _ _ ?_
  refine wp_ret ?_
  exact bodyPost_ret (v := PV (⟨(x.c0 - y.c0), (x.c1 - y.c1)⟩)) (res_c rfl (by kernel_rfl) (hp2.bound 2 rfl).2 Tryd.underlying26 rfl (sizePC _)) rfl ⟨rfl, hp2.bel⟩
set_option maxHeartbeats 4000000 in
theorem ref5Neg2 (R : RefK) (x : F2) (w : World) : Calls Tryd.prog 17 #[PV x] w (Ret (PV (-x)) w) := by
  have hp0 := Heap.start w
  go_enter Tryd.func17, Tryd.ntmps17
  refine wp_seq_k (fun K1 k1 => ?_)
  refine goes (ks := [.alloc (PC x), .alloc (PC 0)]) (T := [0, 0]) (nt := 6) (nh := 0) (H := []) (A := fun L => [PV x, .pointer (some ⟨L.b 0, 0, none⟩), .pointer (some ⟨L.b 1, 0, none⟩), undef, undef, undef]) (H' := fun L => [(L.b 0, PC x), (L.b 1, PC 0)]) (by kernel_rfl) rfl rfl rfl (fun L => by kernel_rfl) (fun L => by kernel_rfl) hp0 ⟨
    ob_box (v := PV x) (fun _ => rfl) rfl rfl (fun _ => by kernel_rfl) rfl,
    ob_alloc (v := PV 0) (fun _ => rfl) rfl rfl zeroP rfl,
    trivial⟩ (fun L0 w1 hp1 => ?_)
  refine k1 _ _ ?_
  refine wp_seq_k (fun K2 k2 => ?_)
  refine goes (ks := [.det (PV 0), .det (PV x), .det (PV ((0 - x))), .store (.base 1) 0 (PC ((0 - x))) (PC ((0 - x)))]) (T := [0, 0, 3, 7]) (nt := 6) (nh := 2) (H := [((L0.b 0), PC x), ((L0.b 1), PC 0)]) (A := fun L => [PV x, .pointer (some ⟨(L0.b 0), 0, none⟩), .pointer (some ⟨(L0.b 1), 0, none⟩), PV 0, PV x, PV ((0 - x))]) (H' := fun L => [((L0.b 0), PC x), ((L0.b 1), PC ((0 - x)))]) (by kernel_rfl) rfl rfl rfl (fun L => by kernel_rfl) (fun L => by kernel_rfl) hp1 ⟨
    ob_build (qs := #[]) (fun _ => rfl) rfl rfl (fun _ => by kernel_rfl) buildP0,
    ob_load (b := (L0.b 0)) (off := 0) (cs := PC x) (by kernel_rfl) (fun _ => rfl) rfl rfl (fun _ => by kernel_rfl) (fun _ _ hs => (seen_at (k := 0) hs rfl).cells) Tryd.underlying26 rfl (sizePC _),
    ob_call (vs := #[PV 0, PV x]) (by kernel_rfl) (by kernel_rfl) (fun _ => rfl) rfl rfl (fun _ => by kernel_rfl) (fun w _ _ => ref5Sub2 R _ _ w),
    ob_store (old := PC 0) (fun _ => rfl) rfl rfl (fun _ => by kernel_rfl) (fun _ => by kernel_rfl) rfl (sizePC _) (PC_one _) (le_len (PC_len _) (PC_len _) (by decide)) (splice_all ((PC_len _).trans (PC_len _).symm)).symm,
    trivial⟩ (fun L1 w2 hp2 => ?_)
  refine k2 _ _ ?_
  refine wp_ret ?_
  exact bodyPost_ret (v := PV ((0 - x))) (res_c rfl (by kernel_rfl) (hp2.bound 1 rfl).2 Tryd.underlying26 rfl (sizePC _)) rfl ⟨congrArg (fun z => Ending.returned (PV z)) (F2.ext' (by simp; grind) (by simp; grind)), hp2.bel⟩
set_option maxHeartbeats 4000000 in
theorem ref5Mul2 (R : RefK) (x y : F2) (w : World) : Calls Tryd.prog 19 #[PV x, PV y] w (Ret (PV (x * y)) w) := by
  have hp0 := Heap.start w
  go_enter Tryd.func19, Tryd.ntmps19
  refine wp_seq_k (fun K1 k1 => ?_)
  refine goes (ks := [.alloc (PC x), .alloc (PC y), .alloc (PC 0)]) (T := [0, 0, 0]) (nt := 32) (nh := 0) (H := []) (A := fun L => [PV x, PV y, .pointer (some ⟨L.b 0, 0, none⟩), .pointer (some ⟨L.b 1, 0, none⟩), .pointer (some ⟨L.b 2, 0, none⟩), undef, undef, undef, undef, undef, undef, undef, undef, undef, undef, undef, undef, undef, undef, undef, undef, undef, undef, undef, undef, undef, undef, undef, undef, undef, undef, undef]) (H' := fun L => [(L.b 0, PC x), (L.b 1, PC y), (L.b 2, PC 0)]) (by kernel_rfl) rfl rfl rfl (fun L => by kernel_rfl) (fun L => by kernel_rfl) hp0 ⟨
    ob_box (v := PV x) (fun _ => rfl) rfl rfl (fun _ => by kernel_rfl) rfl,
    ob_box (v := PV y) (fun _ => rfl) rfl rfl (fun _ => by kernel_rfl) rfl,
    ob_alloc (v := PV 0) (fun _ => rfl) rfl rfl zeroP rfl,
    trivial⟩ (fun L0 w1 hp1 => ?_)
  refine k1 _ _ ?_
  refine wp_seq_k (fun K2 k2 => ?_)
  refine draws (by kernel_rfl) (ks := [.det (.pointer (some ⟨(L0.b 0), 0, none⟩)), .det (FV x.c0), .det (.pointer (some ⟨(L0.b 1), 0, none⟩)), .det (FV y.c0), .det (FV ((x.c0 * y.c0))), .det (.pointer (some ⟨(L0.b 0), 6, none⟩)), .det (FV x.c1), .det (.pointer (some ⟨(L0.b 1), 6, none⟩)), .det (FV y.c1), .det (FV ((x.c1 * y.c1))), .det (FV (((x.c0 * y.c0) - (x.c1 * y.c1)))), .alloc (FC 0), .store (.new 11) 0 (FC (((x.c0 * y.c0) - (x.c1 * y.c1)))) (FC (((x.c0 * y.c0) - (x.c1 * y.c1))))]) (T := [0, 1, 0, 4, 15, 0, 32, 0, 128, 511, 1023, 0, 4095]) (nt := 32) (nh := 3) (H := [((L0.b 0), PC x), ((L0.b 1), PC y), ((L0.b 2), PC 0)]) (A := fun L => [PV x, PV y, .pointer (some ⟨(L0.b 0), 0, none⟩), .pointer (some ⟨(L0.b 1), 0, none⟩), .pointer (some ⟨(L0.b 2), 0, none⟩), .pointer (some ⟨L.b 11, 0, none⟩), undef, .pointer (some ⟨(L0.b 0), 0, none⟩), FV x.c0, .pointer (some ⟨(L0.b 1), 0, none⟩), FV y.c0, FV ((x.c0 * y.c0)), .pointer (some ⟨(L0.b 0), 6, none⟩), FV x.c1, .pointer (some ⟨(L0.b 1), 6, none⟩), FV y.c1, FV ((x.c1 * y.c1)), FV (((x.c0 * y.c0) - (x.c1 * y.c1))), undef, undef, undef, undef, undef, undef, undef, undef, undef, undef, undef, undef, undef, undef]) (H' := fun L => [((L0.b 0), PC x), ((L0.b 1), PC y), ((L0.b 2), PC 0), (L.b 11, FC (((x.c0 * y.c0) - (x.c1 * y.c1))))]) (by kernel_rfl) rfl rfl rfl (fun L => by kernel_rfl) (fun L => by kernel_rfl) hp1 ⟨
    ob_index (b := (L0.b 0)) (off := 0) (k := 0) (sz := 6) (n := 2) (fun _ => rfl) rfl rfl (fun _ => by kernel_rfl) (fun _ => by kernel_rfl) Tryd.underlying26 sizeF (by decide) rfl,
    ob_load (b := (L0.b 0)) (off := 0) (cs := FC x.c0) (by kernel_rfl) (fun _ => rfl) rfl rfl (fun _ => by kernel_rfl) (fun _ _ hs => partF2_0 (seen_at (k := 0) hs rfl)) Tryd.underlying24 rfl (sizeFC _),
    ob_index (b := (L0.b 1)) (off := 0) (k := 0) (sz := 6) (n := 2) (fun _ => rfl) rfl rfl (fun _ => by kernel_rfl) (fun _ => by kernel_rfl) Tryd.underlying26 sizeF (by decide) rfl,
    ob_load (b := (L0.b 1)) (off := 0) (cs := FC y.c0) (by kernel_rfl) (fun _ => rfl) rfl rfl (fun _ => by kernel_rfl) (fun _ _ hs => partF2_0 (seen_at (k := 1) hs rfl)) Tryd.underlying24 rfl (sizeFC _),
    ob_call (vs := #[FV x.c0, FV y.c0]) (by kernel_rfl) (by kernel_rfl) (fun _ => rfl) rfl rfl (fun _ => by kernel_rfl) (fun w _ _ => R.mul _ _ w trivial),
    ob_index (b := (L0.b 0)) (off := 0) (k := 1) (sz := 6) (n := 2) (fun _ => rfl) rfl rfl (fun _ => by kernel_rfl) (fun _ => by kernel_rfl) Tryd.underlying26 sizeF (by decide) rfl,
    ob_load (b := (L0.b 0)) (off := 6) (cs := FC x.c1) (by kernel_rfl) (fun _ => rfl) rfl rfl (fun _ => by kernel_rfl) (fun _ _ hs => partF2_1 (seen_at (k := 0) hs rfl)) Tryd.underlying24 rfl (sizeFC _),
    ob_index (b := (L0.b 1)) (off := 0) (k := 1) (sz := 6) (n := 2) (fun _ => rfl) rfl rfl (fun _ => by kernel_rfl) (fun _ => by kernel_rfl) Tryd.underlying26 sizeF (by decide) rfl,
    ob_load (b := (L0.b 1)) (off := 6) (cs := FC y.c1) (by kernel_rfl) (fun _ => rfl) rfl rfl (fun _ => by kernel_rfl) (fun _ _ hs => partF2_1 (seen_at (k := 1) hs rfl)) Tryd.underlying24 rfl (sizeFC _),
    ob_call (vs := #[FV x.c1, FV y.c1]) (by kernel_rfl) (by kernel_rfl) (fun _ => rfl) rfl rfl (fun _ => by kernel_rfl) (fun w _ _ => R.mul _ _ w trivial),
    ob_call (vs := #[FV ((x.c0 * y.c0)), FV ((x.c1 * y.c1))]) (by kernel_rfl) (by kernel_rfl) (fun _ => rfl) rfl rfl (fun _ => by kernel_rfl) (fun w _ _ => R.sub _ _ w trivial),
    ob_alloc (v := FV 0) (fun _ => rfl) rfl rfl zeroF rfl,
    ob_store (old := FC 0) (fun _ => rfl) rfl rfl (fun _ => by kernel_rfl) (fun _ => by kernel_rfl) rfl (sizeFC _) (FC_one _) (le_len (FC_len _) (FC_len _) (by decide)) (splice_all ((FC_len _).trans (FC_len _).symm)).symm,
    trivial⟩ (fun L1 w2 hp2 => ?_)
  refine k2 _ _ ?_
  refine wp_seq_k (fun K3 k3 => ?_)
  refine draws (by kernel_rfl) (ks := [.det (.pointer (some ⟨(L0.b 0), 0, none⟩)), .det (FV x.c0), .det (.pointer (some ⟨(L0.b 1), 6, none⟩)), .det (FV y.c1), .det (FV ((x.c0 * y.c1))), .det (.pointer (some ⟨(L0.b 0), 6, none⟩)), .det (FV x.c1), .det (.pointer (some ⟨(L0.b 1), 0, none⟩)), .det (FV y.c0), .det (FV ((x.c1 * y.c0))), .det (FV (((x.c0 * y.c1) + (x.c1 * y.c0)))), .alloc (FC 0), .store (.new 11) 0 (FC (((x.c0 * y.c1) + (x.c1 * y.c0)))) (FC (((x.c0 * y.c1) + (x.c1 * y.c0))))]) (T := [0, 1, 0, 4, 15, 0, 32, 0, 128, 511, 1023, 0, 4095]) (nt := 32) (nh := 4) (H := [((L0.b 0), PC x), ((L0.b 1), PC y), ((L0.b 2), PC 0), ((L1.b 11), FC (((x.c0 * y.c0) - (x.c1 * y.c1))))]) (A := fun L => [PV x, PV y, .pointer (some ⟨(L0.b 0), 0, none⟩), .pointer (some ⟨(L0.b 1), 0, none⟩), .pointer (some ⟨(L0.b 2), 0, none⟩), .pointer (some ⟨(L1.b 11), 0, none⟩), .pointer (some ⟨L.b 11, 0, none⟩), .pointer (some ⟨(L0.b 0), 0, none⟩), FV x.c0, .pointer (some ⟨(L0.b 1), 0, none⟩), FV y.c0, FV ((x.c0 * y.c0)), .pointer (some ⟨(L0.b 0), 6, none⟩), FV x.c1, .pointer (some ⟨(L0.b 1), 6, none⟩), FV y.c1, FV ((x.c1 * y.c1)), FV (((x.c0 * y.c0) - (x.c1 * y.c1))), .pointer (some ⟨(L0.b 0), 0, none⟩), FV x.c0, .pointer (some ⟨(L0.b 1), 6, none⟩), FV y.c1, FV ((x.c0 * y.c1)), .pointer (some ⟨(L0.b 0), 6, none⟩), FV x.c1, .pointer (some ⟨(L0.b 1), 0, none⟩), FV y.c0, FV ((x.c1 * y.c0)), FV (((x.c0 * y.c1) + (x.c1 * y.c0))), undef, undef, undef]) (H' := fun L => [((L0.b 0), PC x), ((L0.b 1), PC y), ((L0.b 2), PC 0), ((L1.b 11), FC (((x.c0 * y.c0) - (x.c1 * y.c1)))), (L.b 11, FC (((x.c0 * y.c1) + (x.c1 * y.c0))))]) (by kernel_rfl) rfl rfl rfl (fun L => by kernel_rfl) (fun L => by kernel_rfl) hp2 ⟨
    ob_index (b := (L0.b 0)) (off := 0) (k := 0) (sz := 6) (n := 2) (fun _ => rfl) rfl rfl (fun _ => by kernel_rfl) (fun _ => by kernel_rfl) Tryd.underlying26 sizeF (by decide) rfl,
    ob_load (b := (L0.b 0)) (off := 0) (cs := FC x.c0) (by kernel_rfl) (fun _ => rfl) rfl rfl (fun _ => by kernel_rfl) (fun _ _ hs => partF2_0 (seen_at (k := 0) hs rfl)) Tryd.underlying24 rfl (sizeFC _),
    ob_index (b := (L0.b 1)) (off := 0) (k := 1) (sz := 6) (n := 2) (fun _ => rfl) rfl rfl (fun _ => by kernel_rfl) (fun _ => by kernel_rfl) Tryd.underlying26 sizeF (by decide) rfl,
    ob_load (b := (L0.b 1)) (off := 6) (cs := FC y.c1) (by kernel_rfl) (fun _ => rfl) rfl rfl (fun _ => by kernel_rfl) (fun _ _ hs => partF2_1 (seen_at (k := 1) hs rfl)) Tryd.underlying24 rfl (sizeFC _),
    ob_call (vs := #[FV x.c0, FV y.c1]) (by kernel_rfl) (by kernel_rfl) (fun _ => rfl) rfl rfl (fun _ => by kernel_rfl) (fun w _ _ => R.mul _ _ w trivial),
    ob_index (b := (L0.b 0)) (off := 0) (k := 1) (sz := 6) (n := 2) (fun _ => rfl) rfl rfl (fun _ => by kernel_rfl) (fun _ => by kernel_rfl) Tryd.underlying26 sizeF (by decide) rfl,
    ob_load (b := (L0.b 0)) (off := 6) (cs := FC x.c1) (by kernel_rfl) (fun _ => rfl) rfl rfl (fun _ => by kernel_rfl) (fun _ _ hs => partF2_1 (seen_at (k := 0) hs rfl)) Tryd.underlying24 rfl (sizeFC _),
    ob_index (b := (L0.b 1)) (off := 0) (k := 0) (sz := 6) (n := 2) (fun _ => rfl) rfl rfl (fun _ => by kernel_rfl) (fun _ => by kernel_rfl) Tryd.underlying26 sizeF (by decide) rfl,
    ob_load (b := (L0.b 1)) (off := 0) (cs := FC y.c0) (by kernel_rfl) (fun _ => rfl) rfl rfl (fun _ => by kernel_rfl) (fun _ _ hs => partF2_0 (seen_at (k := 1) hs rfl)) Tryd.underlying24 rfl (sizeFC _),
    ob_call (vs := #[FV x.c1, FV y.c0]) (by kernel_rfl) (by kernel_rfl) (fun _ => rfl) rfl rfl (fun _ => by kernel_rfl) (fun w _ _ => R.mul _ _ w trivial),
    ob_call (vs := #[FV ((x.c0 * y.c1)), FV ((x.c1 * y.c0))]) (by kernel_rfl) (by kernel_rfl) (fun _ => rfl) rfl rfl (fun _ => by kernel_rfl) (fun w _ _ => R.add _ _ w trivial),
    ob_alloc (v := FV 0) (fun _ => rfl) rfl rfl zeroF rfl,
    ob_store (old := FC 0) (fun _ => rfl) rfl rfl (fun _ => by kernel_rfl) (fun _ => by kernel_rfl) rfl (sizeFC _) (FC_one _) (le_len (FC_len _) (FC_len _) (by decide)) (splice_all ((FC_len _).trans (FC_len _).symm)).symm,
    trivial⟩ (fun L2 w3 hp3 => ?_)
  refine k3 _ _ ?_
  refine wp_seq_k (fun K4 k4 => ?_)
  refine goes (ks := [.det (FV (((x.c0 * y.c0) - (x.c1 * y.c1)))), .det (FV (((x.c0 * y.c1) + (x.c1 * y.c0)))), .det (PV (⟨((x.c0 * y.c0) - (x.c1 * y.c1)), ((x.c0 * y.c1) + (x.c1 * y.c0))⟩)), .store (.base 2) 0 (PC (⟨((x.c0 * y.c0) - (x.c1 * y.c1)), ((x.c0 * y.c1) + (x.c1 * y.c0))⟩)) (PC (⟨((x.c0 * y.c0) - (x.c1 * y.c1)), ((x.c0 * y.c1) + (x.c1 * y.c0))⟩))]) (T := [0, 0, 3, 7]) (nt := 32) (nh := 5) (H := [((L0.b 0), PC x), ((L0.b 1), PC y), ((L0.b 2), PC 0), ((L1.b 11), FC (((x.c0 * y.c0) - (x.c1 * y.c1)))), ((L2.b 11), FC (((x.c0 * y.c1) + (x.c1 * y.c0))))]) (A := fun L => [PV x, PV y, .pointer (some ⟨(L0.b 0), 0, none⟩), .pointer (some ⟨(L0.b 1), 0, none⟩), .pointer (some ⟨(L0.b 2), 0, none⟩), .pointer (some ⟨(L1.b 11), 0, none⟩), .pointer (some ⟨(L2.b 11), 0, none⟩), .pointer (some ⟨(L0.b 0), 0, none⟩), FV x.c0, .pointer (some ⟨(L0.b 1), 0, none⟩), FV y.c0, FV ((x.c0 * y.c0)), .pointer (some ⟨(L0.b 0), 6, none⟩), FV x.c1, .pointer (some ⟨(L0.b 1), 6, none⟩), FV y.c1, FV ((x.c1 * y.c1)), FV (((x.c0 * y.c0) - (x.c1 * y.c1))), .pointer (some ⟨(L0.b 0), 0, none⟩), FV x.c0, .pointer (some ⟨(L0.b 1), 6, none⟩), FV y.c1, FV ((x.c0 * y.c1)), .pointer (some ⟨(L0.b 0), 6, none⟩), FV x.c1, .pointer (some ⟨(L0.b 1), 0, none⟩), FV y.c0, FV ((x.c1 * y.c0)), FV (((x.c0 * y.c1) + (x.c1 * y.c0))), FV (((x.c0 * y.c0) - (x.c1 * y.c1))), FV (((x.c0 * y.c1) + (x.c1 * y.c0))), PV (⟨((x.c0 * y.c0) - (x.c1 * y.c1)), ((x.c0 * y.c1) + (x.c1 * y.c0))⟩)]) (H' := fun L => [((L0.b 0), PC x), ((L0.b 1), PC y), ((L0.b 2), PC (⟨((x.c0 * y.c0) - (x.c1 * y.c1)), ((x.c0 * y.c1) + (x.c1 * y.c0))⟩)), ((L1.b 11), FC (((x.c0 * y.c0) - (x.c1 * y.c1)))), ((L2.b 11), FC (((x.c0 * y.c1) + (x.c1 * y.c0))))]) (by kernel_rfl) rfl rfl rfl (fun L => by kernel_rfl) (fun L => by kernel_rfl) hp3 ⟨
    ob_load (b := (L1.b 11)) (off := 0) (cs := FC (((x.c0 * y.c0) - (x.c1 * y.c1)))) (by kernel_rfl) (fun _ => rfl) rfl rfl (fun _ => by kernel_rfl) (fun _ _ hs => (seen_at (k := 3) hs rfl).cells) Tryd.underlying24 rfl (sizeFC _),
    ob_load (b := (L2.b 11)) (off := 0) (cs := FC (((x.c0 * y.c1) + (x.c1 * y.c0)))) (by kernel_rfl) (fun _ => rfl) rfl rfl (fun _ => by kernel_rfl) (fun _ _ hs => (seen_at (k := 4) hs rfl).cells) Tryd.underlying24 rfl (sizeFC _),
    ob_build (qs := #[(0, FV (((x.c0 * y.c0) - (x.c1 * y.c1)))), (1, FV (((x.c0 * y.c1) + (x.c1 * y.c0))))]) (fun _ => rfl) rfl rfl (fun _ => by kernel_rfl) (buildP _ _),
    ob_store (old := PC 0) (fun _ => rfl) rfl rfl (fun _ => by kernel_rfl) (fun _ => by kernel_rfl) rfl (sizePC _) (PC_one _) (le_len (PC_len _) (PC_len _) (by decide)) (splice_all ((PC_len _).trans (PC_len _).symm)).symm,
    trivial⟩ (fun L3 w4 hp4 => ?_)
  refine k4 _ _ ?_
  refine wp_ret ?_
  exact bodyPost_ret (v := PV (⟨((x.c0 * y.c0) - (x.c1 * y.c1)), ((x.c0 * y.c1) + (x.c1 * y.c0))⟩)) (res_c rfl (by kernel_rfl) (hp4.bound 2 rfl).2 Tryd.underlying26 rfl (sizePC _)) rfl ⟨rfl, hp4.bel⟩
set_option maxHeartbeats 4000000 in
theorem ref5Conj2 (R : RefK) (x : F2) (w : World) : Calls Tryd.prog 21 #[PV x] w (Ret (PV x.conj) w) := by
  have hp0 := Heap.start w
  go_enter Tryd.func21, Tryd.ntmps21
  refine wp_seq_k (fun K1 k1 => ?_)
  refine goes (ks := [.alloc (PC x), .alloc (PC 0)]) (T := [0, 0]) (nt := 9) (nh := 0) (H := []) (A := fun L => [PV x, .pointer (some ⟨L.b 0, 0, none⟩), .pointer (some ⟨L.b 1, 0, none⟩), undef, undef, undef, undef, undef, undef]) (H' := fun L => [(L.b 0, PC x), (L.b 1, PC 0)]) (by kernel_rfl) rfl rfl rfl (fun L => by kernel_rfl) (fun L => by kernel_rfl) hp0 ⟨
    ob_box (v := PV x) (fun _ => rfl) rfl rfl (fun _ => by kernel_rfl) rfl,
    ob_alloc (v := PV 0) (fun _ => rfl) rfl rfl zeroP rfl,
    trivial⟩ (fun L0 w1 hp1 => ?_)
  refine k1 _ _ ?_
  refine wp_seq_k (fun K2 k2 => ?_)
  refine draws (by kernel_rfl) (ks := [.det (.pointer (some ⟨(L0.b 0), 0, none⟩)), .det (FV x.c0), .det (.pointer (some ⟨(L0.b 0), 6, none⟩)), .det (FV x.c1), .det (FV ((-x.c1))), .det (PV (⟨x.c0, (-x.c1)⟩)), .store (.base 1) 0 (PC (⟨x.c0, (-x.c1)⟩)) (PC (⟨x.c0, (-x.c1)⟩))]) (T := [0, 1, 0, 4, 12, 31, 63]) (nt := 9) (nh := 2) (H := [((L0.b 0), PC x), ((L0.b 1), PC 0)]) (A := fun L => [PV x, .pointer (some ⟨(L0.b 0), 0, none⟩), .pointer (some ⟨(L0.b 1), 0, none⟩), .pointer (some ⟨(L0.b 0), 0, none⟩), FV x.c0, .pointer (some ⟨(L0.b 0), 6, none⟩), FV x.c1, FV ((-x.c1)), PV (⟨x.c0, (-x.c1)⟩)]) (H' := fun L => [((L0.b 0), PC x), ((L0.b 1), PC (⟨x.c0, (-x.c1)⟩))]) (by kernel_rfl) rfl rfl rfl (fun L => by kernel_rfl) (fun L => by kernel_rfl) hp1 ⟨
    ob_index (b := (L0.b 0)) (off := 0) (k := 0) (sz := 6) (n := 2) (fun _ => rfl) rfl rfl (fun _ => by kernel_rfl) (fun _ => by kernel_rfl) Tryd.underlying26 sizeF (by decide) rfl,
    ob_load (b := (L0.b 0)) (off := 0) (cs := FC x.c0) (by kernel_rfl) (fun _ => rfl) rfl rfl (fun _ => by kernel_rfl) (fun _ _ hs => partF2_0 (seen_at (k := 0) hs rfl)) Tryd.underlying24 rfl (sizeFC _),
    ob_index (b := (L0.b 0)) (off := 0) (k := 1) (sz := 6) (n := 2) (fun _ => rfl) rfl rfl (fun _ => by kernel_rfl) (fun _ => by kernel_rfl) Tryd.underlying26 sizeF (by decide) rfl,
    ob_load (b := (L0.b 0)) (off := 6) (cs := FC x.c1) (by kernel_rfl) (fun _ => rfl) rfl rfl (fun _ => by kernel_rfl) (fun _ _ hs => partF2_1 (seen_at (k := 0) hs rfl)) Tryd.underlying24 rfl (sizeFC _),
    ob_call (vs := #[FV x.c1]) (by kernel_rfl) (by kernel_rfl) (fun _ => rfl) rfl rfl (fun _ => by kernel_rfl) (fun w _ _ => R.neg _ w trivial),
    ob_build (qs := #[(0, FV x.c0), (1, FV ((-x.c1)))]) (fun _ => rfl) rfl rfl (fun _ => by kernel_rfl) (buildP _ _),
    ob_store (old := PC 0) (fun _ => rfl) rfl rfl (fun _ => by kernel_rfl) (fun _ => by kernel_rfl) rfl (sizePC _) (PC_one _) (le_len (PC_len _) (PC_len _) (by decide)) (splice_all ((PC_len _).trans (PC_len _).symm)).symm,
    trivial⟩ (fun L1 w2 hp2 => ?_)
  refine k2 _ _ ?_
  refine wp_ret ?_
  exact bodyPost_ret (v := PV (⟨x.c0, (-x.c1)⟩)) (res_c rfl (by kernel_rfl) (hp2.bound 1 rfl).2 Tryd.underlying26 rfl (sizePC _)) rfl ⟨rfl, hp2.bel⟩
theorem conj_mul (x : F2) : x * x.conj = ⟨x.norm, 0⟩ := F2.ext' (by simp [F2.norm]; grind) (by simp; grind)
set_option maxHeartbeats 4000000 in
theorem ref5Inv2 (R : RefK) (x : F2) (w : World) (hn : x.norm ≠ 0) : Calls Tryd.prog 11 #[PV x] w (Ret (.tuple #[PV x.inv, .int .i64 0]) w) := by
  have hp0 := Heap.start w
  go_enter Tryd.func11, Tryd.ntmps11
  refine wp_seq_k (fun K1 k1 => ?_)
  refine goes (ks := [.alloc (PC x), .alloc (PC 0), .det (.int .i64 0)]) (T := [0, 0, 0]) (nt := 26) (nh := 0) (H := []) (A := fun L => [PV x, .pointer (some ⟨L.b 0, 0, none⟩), .pointer (some ⟨L.b 1, 0, none⟩), .int .i64 0, undef, undef, undef, undef, undef, undef, undef, undef, undef, undef, undef, undef, undef, undef, undef, undef, undef, undef, undef, undef, undef, undef]) (H' := fun L => [(L.b 0, PC x), (L.b 1, PC 0)]) (by kernel_rfl) rfl rfl rfl (fun L => by kernel_rfl) (fun L => by kernel_rfl) hp0 ⟨
    ob_box (v := PV x) (fun _ => rfl) rfl rfl (fun _ => by kernel_rfl) rfl,
    ob_alloc (v := PV 0) (fun _ => rfl) rfl rfl zeroP rfl,
    ob_assign (fun _ => rfl) rfl rfl (fun _ => by kernel_rfl),
    trivial⟩ (fun L0 w1 hp1 => ?_)
  refine k1 _ _ ?_
  refine wp_seq_k (fun K2 k2 => ?_)
  refine draws (by kernel_rfl) (ks := [.det (PV x), .det (PV x), .det (PV x.conj), .det (PV (⟨x.norm, 0⟩)), .alloc (PC 0), .store (.new 4) 0 (PC (⟨x.norm, 0⟩)) (PC (⟨x.norm, 0⟩))]) (T := [0, 0, 2, 7, 0, 31]) (nt := 26) (nh := 2) (H := [((L0.b 0), PC x), ((L0.b 1), PC 0)]) (A := fun L => [PV x, .pointer (some ⟨(L0.b 0), 0, none⟩), .pointer (some ⟨(L0.b 1), 0, none⟩), .int .i64 0, .pointer (some ⟨L.b 4, 0, none⟩), undef, undef, PV x, PV x, PV x.conj, PV (⟨x.norm, 0⟩), undef, undef, undef, undef, undef, undef, undef, undef, undef, undef, undef, undef, undef, undef, undef]) (H' := fun L => [((L0.b 0), PC x), ((L0.b 1), PC 0), (L.b 4, PC (⟨x.norm, 0⟩))]) (by kernel_rfl) rfl rfl rfl (fun L => by kernel_rfl) (fun L => by kernel_rfl) hp1 ⟨
    ob_load (b := (L0.b 0)) (off := 0) (cs := PC x) (by kernel_rfl) (fun _ => rfl) rfl rfl (fun _ => by kernel_rfl) (fun _ _ hs => (seen_at (k := 0) hs rfl).cells) Tryd.underlying26 rfl (sizePC _),
    ob_load (b := (L0.b 0)) (off := 0) (cs := PC x) (by kernel_rfl) (fun _ => rfl) rfl rfl (fun _ => by kernel_rfl) (fun _ _ hs => (seen_at (k := 0) hs rfl).cells) Tryd.underlying26 rfl (sizePC _),
    ob_call (vs := #[PV x]) (by kernel_rfl) (by kernel_rfl) (fun _ => rfl) rfl rfl (fun _ => by kernel_rfl) (fun w _ _ => ref5Conj2 R _ w),
    ob_call (vs := #[PV x, PV x.conj]) (by kernel_rfl) (by kernel_rfl) (fun _ => rfl) rfl rfl (fun _ => by kernel_rfl) (fun w _ _ => by have h := ref5Mul2 R x x.conj w; rw [conj_mul] at h; exact h),
    ob_alloc (v := PV 0) (fun _ => rfl) rfl rfl zeroP rfl,
    ob_store (old := PC 0) (fun _ => rfl) rfl rfl (fun _ => by kernel_rfl) (fun _ => by kernel_rfl) rfl (sizePC _) (PC_one _) (le_len (PC_len _) (PC_len _) (by decide)) (splice_all ((PC_len _).trans (PC_len _).symm)).symm,
    trivial⟩ (fun L1 w2 hp2 => ?_)
  refine k2 _ _ ?_
  refine wp_seq_k (fun K3 k3 => ?_)
  refine goes (ks := [.det (.pointer (some ⟨(L1.b 4), 0, none⟩)), .det (FV x.norm), .det (.tuple #[FV ((finv x.norm)), .int .i64 0]), .det (.tuple #[FV ((finv x.norm)), .int .i64 0]), .det (FV ((finv x.norm))), .det (.int .i64 0), .alloc (FC 0), .store (.new 6) 0 (FC ((finv x.norm))) (FC ((finv x.norm))), .det (.int .i64 0)]) (T := [0, 1, 3, 7, 15, 15, 0, 95, 255]) (nt := 26) (nh := 3) (H := [((L0.b 0), PC x), ((L0.b 1), PC 0), ((L1.b 4), PC (⟨x.norm, 0⟩))]) (A := fun L => [PV x, .pointer (some ⟨(L0.b 0), 0, none⟩), .pointer (some ⟨(L0.b 1), 0, none⟩), .int .i64 0, .pointer (some ⟨(L1.b 4), 0, none⟩), .pointer (some ⟨L.b 6, 0, none⟩), .int .i64 0, PV x, PV x, PV x.conj, PV (⟨x.norm, 0⟩), .tuple #[FV ((finv x.norm)), .int .i64 0], .pointer (some ⟨(L1.b 4), 0, none⟩), FV x.norm, .tuple #[FV ((finv x.norm)), .int .i64 0], FV ((finv x.norm)), .int .i64 0, undef, undef, undef, undef, undef, undef, undef, undef, undef]) (H' := fun L => [((L0.b 0), PC x), ((L0.b 1), PC 0), ((L1.b 4), PC (⟨x.norm, 0⟩)), (L.b 6, FC ((finv x.norm)))]) (by kernel_rfl) rfl rfl rfl (fun L => by kernel_rfl) (fun L => by kernel_rfl) hp2 ⟨
    ob_index (b := (L1.b 4)) (off := 0) (k := 0) (sz := 6) (n := 2) (fun _ => rfl) rfl rfl (fun _ => by kernel_rfl) (fun _ => by kernel_rfl) Tryd.underlying26 sizeF (by decide) rfl,
    ob_load (b := (L1.b 4)) (off := 0) (cs := FC x.norm) (by kernel_rfl) (fun _ => rfl) rfl rfl (fun _ => by kernel_rfl) (fun _ _ hs => partF2_0 (seen_at (k := 2) hs rfl)) Tryd.underlying24 rfl (sizeFC _),
    ob_call (vs := #[FV x.norm]) (by kernel_rfl) (by kernel_rfl) (fun _ => rfl) rfl rfl (fun _ => by kernel_rfl) (fun w _ _ => by have h := R.inv x.norm w trivial hn; exact h),
    ob_move (fun _ => rfl) rfl rfl (fun _ => by kernel_rfl),
    ob_extract (vs := #[FV ((finv x.norm)), .int .i64 0]) (fun _ => rfl) rfl rfl (fun _ => by kernel_rfl) rfl,
    ob_extract (vs := #[FV ((finv x.norm)), .int .i64 0]) (fun _ => rfl) rfl rfl (fun _ => by kernel_rfl) rfl,
    ob_alloc (v := FV 0) (fun _ => rfl) rfl rfl zeroF rfl,
    ob_store (old := FC 0) (fun _ => rfl) rfl rfl (fun _ => by kernel_rfl) (fun _ => by kernel_rfl) rfl (sizeFC _) (FC_one _) (le_len (FC_len _) (FC_len _) (by decide)) (splice_all ((FC_len _).trans (FC_len _).symm)).symm,
    ob_assign (fun _ => rfl) rfl rfl (fun _ => by kernel_rfl),
    trivial⟩ (fun L2 w3 hp3 => ?_)
  refine k3 _ _ ?_
  refine wp_seq_k (fun K4 k4 => ?_)
  refine wp_seq_k (fun K5 k5 => ?_)
  refine goes (ks := [.det (.int .i64 0), .det (.bool false)]) (T := [0, 1]) (nt := 26) (nh := 4) (H := [((L0.b 0), PC x), ((L0.b 1), PC 0), ((L1.b 4), PC (⟨x.norm, 0⟩)), ((L2.b 6), FC ((finv x.norm)))]) (A := fun L => [PV x, .pointer (some ⟨(L0.b 0), 0, none⟩), .pointer (some ⟨(L0.b 1), 0, none⟩), .int .i64 0, .pointer (some ⟨(L1.b 4), 0, none⟩), .pointer (some ⟨(L2.b 6), 0, none⟩), .int .i64 0, PV x, PV x, PV x.conj, PV (⟨x.norm, 0⟩), .tuple #[FV ((finv x.norm)), .int .i64 0], .pointer (some ⟨(L1.b 4), 0, none⟩), FV x.norm, .tuple #[FV ((finv x.norm)), .int .i64 0], FV ((finv x.norm)), .int .i64 0, .int .i64 0, .bool false, undef, undef, undef, undef, undef, undef, undef]) (H' := fun L => [((L0.b 0), PC x), ((L0.b 1), PC 0), ((L1.b 4), PC (⟨x.norm, 0⟩)), ((L2.b 6), FC ((finv x.norm)))]) (by kernel_rfl) rfl rfl rfl (fun L => by kernel_rfl) (fun L => by kernel_rfl) hp3 ⟨
    ob_move (fun _ => rfl) rfl rfl (fun _ => by kernel_rfl),
    ob_ne (u := .int .i64 0) (v := .int .i64 0) (fun _ => rfl) rfl rfl (fun _ => by kernel_rfl) (fun _ => by kernel_rfl) (fun w => guardI _ _ _ _ _ _ _ _ w) (fun w => (neqI _ _ _ _ w).trans rfl),
    trivial⟩ (fun L3 w4 hp4 => ?_)
  refine k5 _ _ ?_
  refine wp_cond_false (by kernel_rfl) ?_
  refine skips ?_
  refine k4 _ _ ?_
  refine wp_seq_k (fun K6 k6 => ?_)
  refine draws (by kernel_rfl) (ks := [.det (PV x), .det (PV x.conj), .det (FV ((finv x.norm))), .det (PV (⟨(finv x.norm), 0⟩)), .det (PV ((x.conj * ⟨(finv x.norm), 0⟩))), .store (.base 1) 0 (PC ((x.conj * ⟨(finv x.norm), 0⟩))) (PC ((x.conj * ⟨(finv x.norm), 0⟩))), .det (.int .i64 0)]) (T := [0, 1, 0, 4, 15, 31, 63]) (nt := 26) (nh := 4) (H := [((L0.b 0), PC x), ((L0.b 1), PC 0), ((L1.b 4), PC (⟨x.norm, 0⟩)), ((L2.b 6), FC ((finv x.norm)))]) (A := fun L => [PV x, .pointer (some ⟨(L0.b 0), 0, none⟩), .pointer (some ⟨(L0.b 1), 0, none⟩), .int .i64 0, .pointer (some ⟨(L1.b 4), 0, none⟩), .pointer (some ⟨(L2.b 6), 0, none⟩), .int .i64 0, PV x, PV x, PV x.conj, PV (⟨x.norm, 0⟩), .tuple #[FV ((finv x.norm)), .int .i64 0], .pointer (some ⟨(L1.b 4), 0, none⟩), FV x.norm, .tuple #[FV ((finv x.norm)), .int .i64 0], FV ((finv x.norm)), .int .i64 0, .int .i64 0, .bool false, undef, undef, PV x, PV x.conj, FV ((finv x.norm)), PV (⟨(finv x.norm), 0⟩), PV ((x.conj * ⟨(finv x.norm), 0⟩))]) (H' := fun L => [((L0.b 0), PC x), ((L0.b 1), PC ((x.conj * ⟨(finv x.norm), 0⟩))), ((L1.b 4), PC (⟨x.norm, 0⟩)), ((L2.b 6), FC ((finv x.norm)))]) (by kernel_rfl) rfl rfl rfl (fun L => by kernel_rfl) (fun L => by kernel_rfl) hp4 ⟨
    ob_load (b := (L0.b 0)) (off := 0) (cs := PC x) (by kernel_rfl) (fun _ => rfl) rfl rfl (fun _ => by kernel_rfl) (fun _ _ hs => (seen_at (k := 0) hs rfl).cells) Tryd.underlying26 rfl (sizePC _),
    ob_call (vs := #[PV x]) (by kernel_rfl) (by kernel_rfl) (fun _ => rfl) rfl rfl (fun _ => by kernel_rfl) (fun w _ _ => ref5Conj2 R _ w),
    ob_load (b := (L2.b 6)) (off := 0) (cs := FC ((finv x.norm))) (by kernel_rfl) (fun _ => rfl) rfl rfl (fun _ => by kernel_rfl) (fun _ _ hs => (seen_at (k := 3) hs rfl).cells) Tryd.underlying24 rfl (sizeFC _),
    ob_build (qs := #[(0, FV ((finv x.norm)))]) (fun _ => rfl) rfl rfl (fun _ => by kernel_rfl) (buildPa _),
    ob_call (vs := #[PV x.conj, PV (⟨(finv x.norm), 0⟩)]) (by kernel_rfl) (by kernel_rfl) (fun _ => rfl) rfl rfl (fun _ => by kernel_rfl) (fun w _ _ => ref5Mul2 R _ _ w),
    ob_store (old := PC 0) (fun _ => rfl) rfl rfl (fun _ => by kernel_rfl) (fun _ => by kernel_rfl) rfl (sizePC _) (PC_one _) (le_len (PC_len _) (PC_len _) (by decide)) (splice_all ((PC_len _).trans (PC_len _).symm)).symm,
    ob_assign (fun _ => rfl) rfl rfl (fun _ => by kernel_rfl),
    trivial⟩ (fun L4 w5 hp5 => ?_)
  refine k6 _ _ ?_
  refine wp_ret ?_
  exact bodyPost_ret (v := .tuple #[PV ((x.conj * ⟨(finv x.norm), 0⟩)), .int .i64 0]) (res_ct rfl (by kernel_rfl) (by kernel_rfl) (hp5.bound 1 rfl).2 Tryd.underlying26 rfl (sizePC _)) rfl ⟨congrArg (fun z => Ending.returned (.tuple #[PV z, .int .i64 0])) (F2.ext' (by simp [F2.inv]; grind) (by simp [F2.inv]; grind)), hp5.bel⟩
set_option maxHeartbeats 4000000 in
theorem ref5Inv20 (R : RefK) (x : F2) (w : World) (hn : x.norm = 0) : Calls Tryd.prog 11 #[PV x] w (Ret (.tuple #[PV 0, .int .i64 7]) w) := by
  have hp0 := Heap.start w
  go_enter Tryd.func11, Tryd.ntmps11
  refine wp_seq_k (fun K1 k1 => ?_)
  refine goes (ks := [.alloc (PC x), .alloc (PC 0), .det (.int .i64 0)]) (T := [0, 0, 0]) (nt := 26) (nh := 0) (H := []) (A := fun L => [PV x, .pointer (some ⟨L.b 0, 0, none⟩), .pointer (some ⟨L.b 1, 0, none⟩), .int .i64 0, undef, undef, undef, undef, undef, undef, undef, undef, undef, undef, undef, undef, undef, undef, undef, undef, undef, undef, undef, undef, undef, undef]) (H' := fun L => [(L.b 0, PC x), (L.b 1, PC 0)]) (by kernel_rfl) rfl rfl rfl (fun L => by kernel_rfl) (fun L => by kernel_rfl) hp0 ⟨
    ob_box (v := PV x) (fun _ => rfl) rfl rfl (fun _ => by kernel_rfl) rfl,
    ob_alloc (v := PV 0) (fun _ => rfl) rfl rfl zeroP rfl,
    ob_assign (fun _ => rfl) rfl rfl (fun _ => by kernel_rfl),
    trivial⟩ (fun L0 w1 hp1 => ?_)
  refine k1 _ _ ?_
  refine wp_seq_k (fun K2 k2 => ?_)
  refine draws (by kernel_rfl) (ks := [.det (PV x), .det (PV x), .det (PV x.conj), .det (PV (⟨0, 0⟩)), .alloc (PC 0), .store (.new 4) 0 (PC (⟨0, 0⟩)) (PC (⟨0, 0⟩))]) (T := [0, 0, 2, 7, 0, 31]) (nt := 26) (nh := 2) (H := [((L0.b 0), PC x), ((L0.b 1), PC 0)]) (A := fun L => [PV x, .pointer (some ⟨(L0.b 0), 0, none⟩), .pointer (some ⟨(L0.b 1), 0, none⟩), .int .i64 0, .pointer (some ⟨L.b 4, 0, none⟩), undef, undef, PV x, PV x, PV x.conj, PV (⟨0, 0⟩), undef, undef, undef, undef, undef, undef, undef, undef, undef, undef, undef, undef, undef, undef, undef]) (H' := fun L => [((L0.b 0), PC x), ((L0.b 1), PC 0), (L.b 4, PC (⟨0, 0⟩))]) (by kernel_rfl) rfl rfl rfl (fun L => by kernel_rfl) (fun L => by kernel_rfl) hp1 ⟨
    ob_load (b := (L0.b 0)) (off := 0) (cs := PC x) (by kernel_rfl) (fun _ => rfl) rfl rfl (fun _ => by kernel_rfl) (fun _ _ hs => (seen_at (k := 0) hs rfl).cells) Tryd.underlying26 rfl (sizePC _),
    ob_load (b := (L0.b 0)) (off := 0) (cs := PC x) (by kernel_rfl) (fun _ => rfl) rfl rfl (fun _ => by kernel_rfl) (fun _ _ hs => (seen_at (k := 0) hs rfl).cells) Tryd.underlying26 rfl (sizePC _),
    ob_call (vs := #[PV x]) (by kernel_rfl) (by kernel_rfl) (fun _ => rfl) rfl rfl (fun _ => by kernel_rfl) (fun w _ _ => ref5Conj2 R _ w),
    ob_call (vs := #[PV x, PV x.conj]) (by kernel_rfl) (by kernel_rfl) (fun _ => rfl) rfl rfl (fun _ => by kernel_rfl) (fun w _ _ => by have h := ref5Mul2 R x x.conj w; rw [conj_mul, hn] at h; exact h),
    ob_alloc (v := PV 0) (fun _ => rfl) rfl rfl zeroP rfl,
    ob_store (old := PC 0) (fun _ => rfl) rfl rfl (fun _ => by kernel_rfl) (fun _ => by kernel_rfl) rfl (sizePC _) (PC_one _) (le_len (PC_len _) (PC_len _) (by decide)) (splice_all ((PC_len _).trans (PC_len _).symm)).symm,
    trivial⟩ (fun L1 w2 hp2 => ?_)
  refine k2 _ _ ?_
  refine wp_seq_k (fun K3 k3 => ?_)
  refine goes (ks := [.det (.pointer (some ⟨(L1.b 4), 0, none⟩)), .det (FV 0), .det (.tuple #[FV 0, .int .i64 7]), .det (.tuple #[FV 0, .int .i64 7]), .det (FV 0), .det (.int .i64 7), .alloc (FC 0), .store (.new 6) 0 (FC 0) (FC 0), .det (.int .i64 7)]) (T := [0, 1, 3, 7, 15, 15, 0, 95, 255]) (nt := 26) (nh := 3) (H := [((L0.b 0), PC x), ((L0.b 1), PC 0), ((L1.b 4), PC (⟨0, 0⟩))]) (A := fun L => [PV x, .pointer (some ⟨(L0.b 0), 0, none⟩), .pointer (some ⟨(L0.b 1), 0, none⟩), .int .i64 0, .pointer (some ⟨(L1.b 4), 0, none⟩), .pointer (some ⟨L.b 6, 0, none⟩), .int .i64 7, PV x, PV x, PV x.conj, PV (⟨0, 0⟩), .tuple #[FV 0, .int .i64 7], .pointer (some ⟨(L1.b 4), 0, none⟩), FV 0, .tuple #[FV 0, .int .i64 7], FV 0, .int .i64 7, undef, undef, undef, undef, undef, undef, undef, undef, undef]) (H' := fun L => [((L0.b 0), PC x), ((L0.b 1), PC 0), ((L1.b 4), PC (⟨0, 0⟩)), (L.b 6, FC 0)]) (by kernel_rfl) rfl rfl rfl (fun L => by kernel_rfl) (fun L => by kernel_rfl) hp2 ⟨
    ob_index (b := (L1.b 4)) (off := 0) (k := 0) (sz := 6) (n := 2) (fun _ => rfl) rfl rfl (fun _ => by kernel_rfl) (fun _ => by kernel_rfl) Tryd.underlying26 sizeF (by decide) rfl,
    ob_load (b := (L1.b 4)) (off := 0) (cs := FC 0) (by kernel_rfl) (fun _ => rfl) rfl rfl (fun _ => by kernel_rfl) (fun _ _ hs => partF2_0 (seen_at (k := 2) hs rfl)) Tryd.underlying24 rfl (sizeFC _),
    ob_call (vs := #[FV 0]) (by kernel_rfl) (by kernel_rfl) (fun _ => rfl) rfl rfl (fun _ => by kernel_rfl) (fun w _ _ => R.inv0 w trivial),
    ob_move (fun _ => rfl) rfl rfl (fun _ => by kernel_rfl),
    ob_extract (vs := #[FV 0, .int .i64 7]) (fun _ => rfl) rfl rfl (fun _ => by kernel_rfl) rfl,
    ob_extract (vs := #[FV 0, .int .i64 7]) (fun _ => rfl) rfl rfl (fun _ => by kernel_rfl) rfl,
    ob_alloc (v := FV 0) (fun _ => rfl) rfl rfl zeroF rfl,
    ob_store (old := FC 0) (fun _ => rfl) rfl rfl (fun _ => by kernel_rfl) (fun _ => by kernel_rfl) rfl (sizeFC _) (FC_one _) (le_len (FC_len _) (FC_len _) (by decide)) (splice_all ((FC_len _).trans (FC_len _).symm)).symm,
    ob_assign (fun _ => rfl) rfl rfl (fun _ => by kernel_rfl),
    trivial⟩ (fun L2 w3 hp3 => ?_)
  refine k3 _ _ ?_
  refine wp_seq_k (fun K4 k4 => ?_)
  refine wp_seq_k (fun K5 k5 => ?_)
  refine goes (ks := [.det (.int .i64 7), .det (.bool true)]) (T := [0, 1]) (nt := 26) (nh := 4) (H := [((L0.b 0), PC x), ((L0.b 1), PC 0), ((L1.b 4), PC (⟨0, 0⟩)), ((L2.b 6), FC 0)]) (A := fun L => [PV x, .pointer (some ⟨(L0.b 0), 0, none⟩), .pointer (some ⟨(L0.b 1), 0, none⟩), .int .i64 0, .pointer (some ⟨(L1.b 4), 0, none⟩), .pointer (some ⟨(L2.b 6), 0, none⟩), .int .i64 7, PV x, PV x, PV x.conj, PV (⟨0, 0⟩), .tuple #[FV 0, .int .i64 7], .pointer (some ⟨(L1.b 4), 0, none⟩), FV 0, .tuple #[FV 0, .int .i64 7], FV 0, .int .i64 7, .int .i64 7, .bool true, undef, undef, undef, undef, undef, undef, undef]) (H' := fun L => [((L0.b 0), PC x), ((L0.b 1), PC 0), ((L1.b 4), PC (⟨0, 0⟩)), ((L2.b 6), FC 0)]) (by kernel_rfl) rfl rfl rfl (fun L => by kernel_rfl) (fun L => by kernel_rfl) hp3 ⟨
    ob_move (fun _ => rfl) rfl rfl (fun _ => by kernel_rfl),
    ob_ne (u := .int .i64 7) (v := .int .i64 0) (fun _ => rfl) rfl rfl (fun _ => by kernel_rfl) (fun _ => by kernel_rfl) (fun w => guardI _ _ _ _ _ _ _ _ w) (fun w => (neqI _ _ _ _ w).trans rfl),
    trivial⟩ (fun L3 w4 hp4 => ?_)
  refine k5 _ _ ?_
  refine wp_cond_true (by kernel_rfl) ?_
  refine wp_seq_k (fun K6 k6 => ?_)
  refine goes (ks := [.det (PV 0), .det (.int .i64 7), .store (.base 1) 0 (PC 0) (PC 0), .det (.int .i64 7)]) (T := [0, 0, 1, 7]) (nt := 26) (nh := 4) (H := [((L0.b 0), PC x), ((L0.b 1), PC 0), ((L1.b 4), PC (⟨0, 0⟩)), ((L2.b 6), FC 0)]) (A := fun L => [PV x, .pointer (some ⟨(L0.b 0), 0, none⟩), .pointer (some ⟨(L0.b 1), 0, none⟩), .int .i64 7, .pointer (some ⟨(L1.b 4), 0, none⟩), .pointer (some ⟨(L2.b 6), 0, none⟩), .int .i64 7, PV x, PV x, PV x.conj, PV (⟨0, 0⟩), .tuple #[FV 0, .int .i64 7], .pointer (some ⟨(L1.b 4), 0, none⟩), FV 0, .tuple #[FV 0, .int .i64 7], FV 0, .int .i64 7, .int .i64 7, .bool true, PV 0, .int .i64 7, undef, undef, undef, undef, undef]) (H' := fun L => [((L0.b 0), PC x), ((L0.b 1), PC 0), ((L1.b 4), PC (⟨0, 0⟩)), ((L2.b 6), FC 0)]) (by kernel_rfl) rfl rfl rfl (fun L => by kernel_rfl) (fun L => by kernel_rfl) hp4 ⟨
    ob_build (qs := #[]) (fun _ => rfl) rfl rfl (fun _ => by kernel_rfl) buildP0,
    ob_move (fun _ => rfl) rfl rfl (fun _ => by kernel_rfl),
    ob_store (old := PC 0) (fun _ => rfl) rfl rfl (fun _ => by kernel_rfl) (fun _ => by kernel_rfl) rfl (sizePC _) (PC_one _) (le_len (PC_len _) (PC_len _) (by decide)) (splice_all ((PC_len _).trans (PC_len _).symm)).symm,
    ob_assign (fun _ => rfl) rfl rfl (fun _ => by kernel_rfl),
    trivial⟩ (fun L4 w5 hp5 => ?_)
  refine k6 _ _ ?_
  refine wp_ret ?_
  exact bodyPost_ret (v := .tuple #[PV 0, .int .i64 7]) (res_ct rfl (by kernel_rfl) (by kernel_rfl) (hp5.bound 1 rfl).2 Tryd.underlying26 rfl (sizePC _)) rfl ⟨rfl, hp5.bel⟩
set_option maxHeartbeats 4000000 in
theorem ref5Great2a (R : RefK) (x : F2) (w : World) (h1 : x.c1 = 0) : Calls Tryd.prog 23 #[PV x] w (Ret (.bool x.great) w) := by
  have hp0 := Heap.start w
  go_enter Tryd.func23, Tryd.ntmps23
  refine wp_seq_k (fun K1 k1 => ?_)
  refine goes (ks := [.alloc (PC x), .det (.bool false)]) (T := [0, 0]) (nt := 13) (nh := 0) (H := []) (A := fun L => [PV x, .pointer (some ⟨L.b 0, 0, none⟩), .bool false, undef, undef, undef, undef, undef, undef, undef, undef, undef, undef]) (H' := fun L => [(L.b 0, PC x)]) (by kernel_rfl) rfl rfl rfl (fun L => by kernel_rfl) (fun L => by kernel_rfl) hp0 ⟨
    ob_box (v := PV x) (fun _ => rfl) rfl rfl (fun _ => by kernel_rfl) rfl,
    ob_assign (fun _ => rfl) rfl rfl (fun _ => by kernel_rfl),
    trivial⟩ (fun L0 w1 hp1 => ?_)
  refine k1 _ _ ?_
  refine wp_seq_k (fun K2 k2 => ?_)
  refine wp_seq_k (fun K3 k3 => ?_)
  refine goes (ks := [.det (.pointer (some ⟨(L0.b 0), 6, none⟩)), .det (FV x.c1), .det (FV 0), .det (.bool false)]) (T := [0, 1, 0, 7]) (nt := 13) (nh := 1) (H := [((L0.b 0), PC x)]) (A := fun L => [PV x, .pointer (some ⟨(L0.b 0), 0, none⟩), .bool false, .pointer (some ⟨(L0.b 0), 6, none⟩), FV x.c1, FV 0, .bool false, undef, undef, undef, undef, undef, undef]) (H' := fun L => [((L0.b 0), PC x)]) (by kernel_rfl) rfl rfl rfl (fun L => by kernel_rfl) (fun L => by kernel_rfl) hp1 ⟨
    ob_index (b := (L0.b 0)) (off := 0) (k := 1) (sz := 6) (n := 2) (fun _ => rfl) rfl rfl (fun _ => by kernel_rfl) (fun _ => by kernel_rfl) Tryd.underlying26 sizeF (by decide) rfl,
    ob_load (b := (L0.b 0)) (off := 6) (cs := FC x.c1) (by kernel_rfl) (fun _ => rfl) rfl rfl (fun _ => by kernel_rfl) (fun _ _ hs => partF2_1 (seen_at (k := 0) hs rfl)) Tryd.underlying24 rfl (sizeFC _),
    ob_build (qs := #[]) (fun _ => rfl) rfl rfl (fun _ => by kernel_rfl) buildF0,
    ob_ne (u := FV x.c1) (v := FV 0) (fun _ => rfl) rfl rfl (fun _ => by kernel_rfl) (fun _ => by kernel_rfl) (fun w => guardF _ _ _ _ _ w) (fun w => (neqF _ _ w).trans (by rw [decide_eq_true (h1)]; try rfl)),
    trivial⟩ (fun L1 w2 hp2 => ?_)
  refine k3 _ _ ?_
  refine wp_cond_false (by kernel_rfl) ?_
  refine skips ?_
  refine k2 _ _ ?_
  refine wp_seq_k (fun K4 k4 => ?_)
  refine goes (ks := [.det (.pointer (some ⟨(L0.b 0), 0, none⟩)), .det (FV x.c0), .det (.bool (great x.c0)), .det (.bool (great x.c0))]) (T := [0, 1, 3, 7]) (nt := 13) (nh := 1) (H := [((L0.b 0), PC x)]) (A := fun L => [PV x, .pointer (some ⟨(L0.b 0), 0, none⟩), .bool (great x.c0), .pointer (some ⟨(L0.b 0), 6, none⟩), FV x.c1, FV 0, .bool false, undef, undef, undef, .pointer (some ⟨(L0.b 0), 0, none⟩), FV x.c0, .bool (great x.c0)]) (H' := fun L => [((L0.b 0), PC x)]) (by kernel_rfl) rfl rfl rfl (fun L => by kernel_rfl) (fun L => by kernel_rfl) hp2 ⟨
    ob_index (b := (L0.b 0)) (off := 0) (k := 0) (sz := 6) (n := 2) (fun _ => rfl) rfl rfl (fun _ => by kernel_rfl) (fun _ => by kernel_rfl) Tryd.underlying26 sizeF (by decide) rfl,
    ob_load (b := (L0.b 0)) (off := 0) (cs := FC x.c0) (by kernel_rfl) (fun _ => rfl) rfl rfl (fun _ => by kernel_rfl) (fun _ _ hs => partF2_0 (seen_at (k := 0) hs rfl)) Tryd.underlying24 rfl (sizeFC _),
    ob_call (vs := #[FV x.c0]) (by kernel_rfl) (by kernel_rfl) (fun _ => rfl) rfl rfl (fun _ => by kernel_rfl) (fun w _ _ => R.great _ w trivial),
    ob_assign (fun _ => rfl) rfl rfl (fun _ => by kernel_rfl),
    trivial⟩ (fun L2 w3 hp3 => ?_)
  refine k4 _ _ ?_
  refine wp_ret ?_
  exact bodyPost_ret (v := .bool (great x.c0)) (res_t rfl (by kernel_rfl) _) rfl ⟨congrArg (fun b => Ending.returned (.bool b)) (if_pos h1).symm, hp3.bel⟩
set_option maxHeartbeats 4000000 in
theorem ref5Great2b (R : RefK) (x : F2) (w : World) (h1 : x.c1 ≠ 0) : Calls Tryd.prog 23 #[PV x] w (Ret (.bool x.great) w) := by
  have hp0 := Heap.start w
  go_enter Tryd.func23, Tryd.ntmps23
  refine wp_seq_k (fun K1 k1 => ?_)
  refine goes (ks := [.alloc (PC x), .det (.bool false)]) (T := [0, 0]) (nt := 13) (nh := 0) (H := []) (A := fun L => [PV x, .pointer (some ⟨L.b 0, 0, none⟩), .bool false, undef, undef, undef, undef, undef, undef, undef, undef, undef, undef]) (H' := fun L => [(L.b 0, PC x)]) (by kernel_rfl) rfl rfl rfl (fun L => by kernel_rfl) (fun L => by kernel_rfl) hp0 ⟨
    ob_box (v := PV x) (fun _ => rfl) rfl rfl (fun _ => by kernel_rfl) rfl,
    ob_assign (fun _ => rfl) rfl rfl (fun _ => by kernel_rfl),
    trivial⟩ (fun L0 w1 hp1 => ?_)
  refine k1 _ _ ?_
  refine wp_seq_k (fun K2 k2 => ?_)
  refine wp_seq_k (fun K3 k3 => ?_)
  refine goes (ks := [.det (.pointer (some ⟨(L0.b 0), 6, none⟩)), .det (FV x.c1), .det (FV 0), .det (.bool true)]) (T := [0, 1, 0, 7]) (nt := 13) (nh := 1) (H := [((L0.b 0), PC x)]) (A := fun L => [PV x, .pointer (some ⟨(L0.b 0), 0, none⟩), .bool false, .pointer (some ⟨(L0.b 0), 6, none⟩), FV x.c1, FV 0, .bool true, undef, undef, undef, undef, undef, undef]) (H' := fun L => [((L0.b 0), PC x)]) (by kernel_rfl) rfl rfl rfl (fun L => by kernel_rfl) (fun L => by kernel_rfl) hp1 ⟨
    ob_index (b := (L0.b 0)) (off := 0) (k := 1) (sz := 6) (n := 2) (fun _ => rfl) rfl rfl (fun _ => by kernel_rfl) (fun _ => by kernel_rfl) Tryd.underlying26 sizeF (by decide) rfl,
    ob_load (b := (L0.b 0)) (off := 6) (cs := FC x.c1) (by kernel_rfl) (fun _ => rfl) rfl rfl (fun _ => by kernel_rfl) (fun _ _ hs => partF2_1 (seen_at (k := 0) hs rfl)) Tryd.underlying24 rfl (sizeFC _),
    ob_build (qs := #[]) (fun _ => rfl) rfl rfl (fun _ => by kernel_rfl) buildF0,
    ob_ne (u := FV x.c1) (v := FV 0) (fun _ => rfl) rfl rfl (fun _ => by kernel_rfl) (fun _ => by kernel_rfl) (fun w => guardF _ _ _ _ _ w) (fun w => (neqF _ _ w).trans (by rw [decide_eq_false (h1)]; try rfl)),
    trivial⟩ (fun L1 w2 hp2 => ?_)
  refine k3 _ _ ?_
  refine wp_cond_true (by kernel_rfl) ?_
  refine wp_seq_k (fun K4 k4 => ?_)
  refine goes (ks := [.det (.pointer (some ⟨(L0.b 0), 6, none⟩)), .det (FV x.c1), .det (.bool (great x.c1)), .det (.bool (great x.c1))]) (T := [0, 1, 3, 7]) (nt := 13) (nh := 1) (H := [((L0.b 0), PC x)]) (A := fun L => [PV x, .pointer (some ⟨(L0.b 0), 0, none⟩), .bool (great x.c1), .pointer (some ⟨(L0.b 0), 6, none⟩), FV x.c1, FV 0, .bool true, .pointer (some ⟨(L0.b 0), 6, none⟩), FV x.c1, .bool (great x.c1), undef, undef, undef]) (H' := fun L => [((L0.b 0), PC x)]) (by kernel_rfl) rfl rfl rfl (fun L => by kernel_rfl) (fun L => by kernel_rfl) hp2 ⟨
    ob_index (b := (L0.b 0)) (off := 0) (k := 1) (sz := 6) (n := 2) (fun _ => rfl) rfl rfl (fun _ => by kernel_rfl) (fun _ => by kernel_rfl) Tryd.underlying26 sizeF (by decide) rfl,
    ob_load (b := (L0.b 0)) (off := 6) (cs := FC x.c1) (by kernel_rfl) (fun _ => rfl) rfl rfl (fun _ => by kernel_rfl) (fun _ _ hs => partF2_1 (seen_at (k := 0) hs rfl)) Tryd.underlying24 rfl (sizeFC _),
    ob_call (vs := #[FV x.c1]) (by kernel_rfl) (by kernel_rfl) (fun _ => rfl) rfl rfl (fun _ => by kernel_rfl) (fun w _ _ => R.great _ w trivial),
    ob_assign (fun _ => rfl) rfl rfl (fun _ => by kernel_rfl),
    trivial⟩ (fun L2 w3 hp3 => ?_)
  refine k4 _ _ ?_
  refine wp_ret ?_
  exact bodyPost_ret (v := .bool (great x.c1)) (res_t rfl (by kernel_rfl) _) rfl ⟨congrArg (fun b => Ending.returned (.bool b)) (if_neg h1).symm, hp3.bel⟩
theorem ref5Great2 (R : RefK) (x : F2) (w : World) : Calls Tryd.prog 23 #[PV x] w (Ret (.bool x.great) w) := by
  by_cases h : x.c1 = 0
  · exact ref5Great2a R x w h
  · exact ref5Great2b R x w h
set_option maxHeartbeats 4000000 in
theorem ref5May2 (R : RefK) (f g : Nat → Int) (w : World) (rf : Rg f 6) (rg : Rg g 6) (lf : val f 6 < RI) (lg : val g 6 < RI) : Calls Tryd.prog 8 #[QV2 f g] w (Ret (.bool true) w) := by
  have hp0 := Heap.start w
  go_enter Tryd.func8, Tryd.ntmps8
  refine wp_seq_k (fun K1 k1 => ?_)
  refine goes (ks := [.alloc (QC2 f g), .det (.bool false)]) (T := [0, 0]) (nt := 11) (nh := 0) (H := []) (A := fun L => [QV2 f g, .pointer (some ⟨L.b 0, 0, none⟩), .bool false, undef, undef, undef, undef, undef, undef, undef, undef]) (H' := fun L => [(L.b 0, QC2 f g)]) (by kernel_rfl) rfl rfl rfl (fun L => by kernel_rfl) (fun L => by kernel_rfl) hp0 ⟨
    ob_box (v := QV2 f g) (fun _ => rfl) rfl rfl (fun _ => by kernel_rfl) rfl,
    ob_assign (fun _ => rfl) rfl rfl (fun _ => by kernel_rfl),
    trivial⟩ (fun L0 w1 hp1 => ?_)
  refine k1 _ _ ?_
  refine wp_seq_k (fun K2 k2 => ?_)
  refine goes (ks := [.det (.pointer (some ⟨(L0.b 0), 0, none⟩)), .det (QV f), .det (.bool true), .det (.bool true), .det (.pointer (some ⟨(L0.b 0), 6, none⟩)), .det (QV g), .det (.bool true), .det (.bool true), .det (.bool true)]) (T := [0, 1, 3, 7, 15, 31, 63, 127, 255]) (nt := 11) (nh := 1) (H := [((L0.b 0), QC2 f g)]) (A := fun L => [QV2 f g, .pointer (some ⟨(L0.b 0), 0, none⟩), .bool true, .pointer (some ⟨(L0.b 0), 0, none⟩), QV f, .bool true, .bool true, .pointer (some ⟨(L0.b 0), 6, none⟩), QV g, .bool true, .bool true]) (H' := fun L => [((L0.b 0), QC2 f g)]) (by kernel_rfl) rfl rfl rfl (fun L => by kernel_rfl) (fun L => by kernel_rfl) hp1 ⟨
    ob_index (b := (L0.b 0)) (off := 0) (k := 0) (sz := 6) (n := 2) (fun _ => rfl) rfl rfl (fun _ => by kernel_rfl) (fun _ => by kernel_rfl) Tryd.underlying26 sizeF (by decide) rfl,
    ob_load (b := (L0.b 0)) (off := 0) (cs := QC f) (by kernel_rfl) (fun _ => rfl) rfl rfl (fun _ => by kernel_rfl) (fun _ _ hs => partQ2_0 (seen_at (k := 0) hs rfl)) Tryd.underlying24 rfl (sizeQC _),
    ob_call (vs := #[QV f]) (by kernel_rfl) (by kernel_rfl) (fun _ => rfl) rfl rfl (fun _ => by kernel_rfl) (fun w _ _ => by have h := R.may f w trivial rf; rw [decide_eq_true lf] at h; exact h),
    ob_move (fun _ => rfl) rfl rfl (fun _ => by kernel_rfl),
    ob_index (b := (L0.b 0)) (off := 0) (k := 1) (sz := 6) (n := 2) (fun _ => by kernel_rfl) rfl rfl (fun _ => by kernel_rfl) (fun _ => by kernel_rfl) Tryd.underlying26 sizeF (by decide) rfl,
    ob_load (b := (L0.b 0)) (off := 6) (cs := QC g) (by kernel_rfl) (fun _ => by kernel_rfl) rfl rfl (fun _ => by kernel_rfl) (fun _ _ hs => partQ2_1 (seen_at (k := 0) hs rfl)) Tryd.underlying24 rfl (sizeQC _),
    ob_call (vs := #[QV g]) (by kernel_rfl) (by kernel_rfl) (fun _ => by kernel_rfl) rfl rfl (fun _ => by kernel_rfl) (fun w _ _ => by have h := R.may g w trivial rg; rw [decide_eq_true lg] at h; exact h),
    ob_pickT (fun _ => rfl) rfl rfl (fun _ => by kernel_rfl) (fun _ => by kernel_rfl),
    ob_assign (fun _ => rfl) rfl rfl (fun _ => by kernel_rfl),
    trivial⟩ (fun L1 w2 hp2 => ?_)
  refine k2 _ _ ?_
  refine wp_ret ?_
  exact bodyPost_ret (v := .bool true) (res_t rfl (by kernel_rfl) _) rfl ⟨rfl, hp2.bel⟩
set_option maxHeartbeats 4000000 in
theorem ref5May20 (R : RefK) (f g : Nat → Int) (w : World) (rf : Rg f 6) (lf : ¬ val f 6 < RI) : Calls Tryd.prog 8 #[QV2 f g] w (Ret (.bool false) w) := by
  have hp0 := Heap.start w
  go_enter Tryd.func8, Tryd.ntmps8
  refine wp_seq_k (fun K1 k1 => ?_)
  refine goes (ks := [.alloc (QC2 f g), .det (.bool false)]) (T := [0, 0]) (nt := 11) (nh := 0) (H := []) (A := fun L => [QV2 f g, .pointer (some ⟨L.b 0, 0, none⟩), .bool false, undef, undef, undef, undef, undef, undef, undef, undef]) (H' := fun L => [(L.b 0, QC2 f g)]) (by kernel_rfl) rfl rfl rfl (fun L => by kernel_rfl) (fun L => by kernel_rfl) hp0 ⟨
    ob_box (v := QV2 f g) (fun _ => rfl) rfl rfl (fun _ => by kernel_rfl) rfl,
    ob_assign (fun _ => rfl) rfl rfl (fun _ => by kernel_rfl),
    trivial⟩ (fun L0 w1 hp1 => ?_)
  refine k1 _ _ ?_
  refine wp_seq_k (fun K2 k2 => ?_)
  refine goes (ks := [.det (.pointer (some ⟨(L0.b 0), 0, none⟩)), .det (QV f), .det (.bool false), .det (.bool false), .det undef, .det undef, .det undef, .det (.bool false), .det (.bool false)]) (T := [0, 1, 3, 7, 15, 31, 63, 127, 255]) (nt := 11) (nh := 1) (H := [((L0.b 0), QC2 f g)]) (A := fun L => [QV2 f g, .pointer (some ⟨(L0.b 0), 0, none⟩), .bool false, .pointer (some ⟨(L0.b 0), 0, none⟩), QV f, .bool false, .bool false, undef, undef, undef, .bool false]) (H' := fun L => [((L0.b 0), QC2 f g)]) (by kernel_rfl) rfl rfl rfl (fun L => by kernel_rfl) (fun L => by kernel_rfl) hp1 ⟨
    ob_index (b := (L0.b 0)) (off := 0) (k := 0) (sz := 6) (n := 2) (fun _ => rfl) rfl rfl (fun _ => by kernel_rfl) (fun _ => by kernel_rfl) Tryd.underlying26 sizeF (by decide) rfl,
    ob_load (b := (L0.b 0)) (off := 0) (cs := QC f) (by kernel_rfl) (fun _ => rfl) rfl rfl (fun _ => by kernel_rfl) (fun _ _ hs => partQ2_0 (seen_at (k := 0) hs rfl)) Tryd.underlying24 rfl (sizeQC _),
    ob_call (vs := #[QV f]) (by kernel_rfl) (by kernel_rfl) (fun _ => rfl) rfl rfl (fun _ => by kernel_rfl) (fun w _ _ => by have h := R.may f w trivial rf; rw [decide_eq_false lf] at h; exact h),
    ob_move (fun _ => rfl) rfl rfl (fun _ => by kernel_rfl),
    ob_skip (fun _ => by kernel_rfl) rfl,
    ob_skip (fun _ => by kernel_rfl) rfl,
    ob_skip (fun _ => by kernel_rfl) rfl,
    ob_pickF (fun _ => rfl) rfl rfl (fun _ => by kernel_rfl) (fun _ => by kernel_rfl),
    ob_assign (fun _ => rfl) rfl rfl (fun _ => by kernel_rfl),
    trivial⟩ (fun L1 w2 hp2 => ?_)
  refine k2 _ _ ?_
  refine wp_ret ?_
  exact bodyPost_ret (v := .bool false) (res_t rfl (by kernel_rfl) _) rfl ⟨rfl, hp2.bel⟩
set_option maxHeartbeats 4000000 in
theorem ref5May21 (R : RefK) (f g : Nat → Int) (w : World) (rf : Rg f 6) (rg : Rg g 6) (lf : val f 6 < RI) (lg : ¬ val g 6 < RI) : Calls Tryd.prog 8 #[QV2 f g] w (Ret (.bool false) w) := by
  have hp0 := Heap.start w
  go_enter Tryd.func8, Tryd.ntmps8
  refine wp_seq_k (fun K1 k1 => ?_)
  refine goes (ks := [.alloc (QC2 f g), .det (.bool false)]) (T := [0, 0]) (nt := 11) (nh := 0) (H := []) (A := fun L => [QV2 f g, .pointer (some ⟨L.b 0, 0, none⟩), .bool false, undef, undef, undef, undef, undef, undef, undef, undef]) (H' := fun L => [(L.b 0, QC2 f g)]) (by kernel_rfl) rfl rfl rfl (fun L => by kernel_rfl) (fun L => by kernel_rfl) hp0 ⟨
    ob_box (v := QV2 f g) (fun _ => rfl) rfl rfl (fun _ => by kernel_rfl) rfl,
    ob_assign (fun _ => rfl) rfl rfl (fun _ => by kernel_rfl),
    trivial⟩ (fun L0 w1 hp1 => ?_)
  refine k1 _ _ ?_
  refine wp_seq_k (fun K2 k2 => ?_)
  refine goes (ks := [.det (.pointer (some ⟨(L0.b 0), 0, none⟩)), .det (QV f), .det (.bool true), .det (.bool true), .det (.pointer (some ⟨(L0.b 0), 6, none⟩)), .det (QV g), .det (.bool false), .det (.bool false), .det (.bool false)]) (T := [0, 1, 3, 7, 15, 31, 63, 127, 255]) (nt := 11) (nh := 1) (H := [((L0.b 0), QC2 f g)]) (A := fun L => [QV2 f g, .pointer (some ⟨(L0.b 0), 0, none⟩), .bool false, .pointer (some ⟨(L0.b 0), 0, none⟩), QV f, .bool true, .bool true, .pointer (some ⟨(L0.b 0), 6, none⟩), QV g, .bool false, .bool false]) (H' := fun L => [((L0.b 0), QC2 f g)]) (by kernel_rfl) rfl rfl rfl (fun L => by kernel_rfl) (fun L => by kernel_rfl) hp1 ⟨
    ob_index (b := (L0.b 0)) (off := 0) (k := 0) (sz := 6) (n := 2) (fun _ => rfl) rfl rfl (fun _ => by kernel_rfl) (fun _ => by kernel_rfl) Tryd.underlying26 sizeF (by decide) rfl,
    ob_load (b := (L0.b 0)) (off := 0) (cs := QC f) (by kernel_rfl) (fun _ => rfl) rfl rfl (fun _ => by kernel_rfl) (fun _ _ hs => partQ2_0 (seen_at (k := 0) hs rfl)) Tryd.underlying24 rfl (sizeQC _),
    ob_call (vs := #[QV f]) (by kernel_rfl) (by kernel_rfl) (fun _ => rfl) rfl rfl (fun _ => by kernel_rfl) (fun w _ _ => by have h := R.may f w trivial rf; rw [decide_eq_true lf] at h; exact h),
    ob_move (fun _ => rfl) rfl rfl (fun _ => by kernel_rfl),
    ob_index (b := (L0.b 0)) (off := 0) (k := 1) (sz := 6) (n := 2) (fun _ => by kernel_rfl) rfl rfl (fun _ => by kernel_rfl) (fun _ => by kernel_rfl) Tryd.underlying26 sizeF (by decide) rfl,
    ob_load (b := (L0.b 0)) (off := 6) (cs := QC g) (by kernel_rfl) (fun _ => by kernel_rfl) rfl rfl (fun _ => by kernel_rfl) (fun _ _ hs => partQ2_1 (seen_at (k := 0) hs rfl)) Tryd.underlying24 rfl (sizeQC _),
    ob_call (vs := #[QV g]) (by kernel_rfl) (by kernel_rfl) (fun _ => by kernel_rfl) rfl rfl (fun _ => by kernel_rfl) (fun w _ _ => by have h := R.may g w trivial rg; rw [decide_eq_false lg] at h; exact h),
    ob_pickT (fun _ => rfl) rfl rfl (fun _ => by kernel_rfl) (fun _ => by kernel_rfl),
    ob_assign (fun _ => rfl) rfl rfl (fun _ => by kernel_rfl),
    trivial⟩ (fun L1 w2 hp2 => ?_)
  refine k2 _ _ ?_
  refine wp_ret ?_
  exact bodyPost_ret (v := .bool false) (res_t rfl (by kernel_rfl) _) rfl ⟨rfl, hp2.bel⟩
end Go.Proofs.YtgoghcmnnhglhaaDoor.fpn
