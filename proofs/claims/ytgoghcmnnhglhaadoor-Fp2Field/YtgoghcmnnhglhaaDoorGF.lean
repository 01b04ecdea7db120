/- IA IC ID. -/
import Derived.Test.YtgoghcmnnhglhaaDoorGE
import Derived.Test.YtgoghcmnnhglhaaDoorGC
/- Package fp2: sums, products and what is made of them. -/
namespace Go.Proofs.YtgoghcmnnhglhaaDoor.fpn
open Go.RowKit Pl
set_option linter.unusedVariables false
set_option linter.unusedSimpArgs false
set_option maxRecDepth 4000

set_option maxHeartbeats 4000000 in
theorem fp2Add {G : World → Prop} (K : FpK G) (x y : F2) (w : World) (hg : G w) : Calls Tryd.prog 12 #[PV x, PV y] w (Ret (PV (x + y)) w) := by
  have hp0 := Heap.start w
  go_enter Tryd.func12, Tryd.ntmps12
  refine wp_seq_k (fun K1 k1 => ?_)
  refine goes (ks := [.alloc (PC x), .alloc (PC y), .alloc (PC 0)]) (T := [0, 0, 0]) (nt := 16) (nh := 0) (H := []) (A := fun L => [PV x, PV y, .pointer (some ⟨L.b 0, 0, none⟩), .pointer (some ⟨L.b 1, 0, none⟩), .pointer (some ⟨L.b 2, 0, none⟩), undef, undef, undef, undef, undef, undef, undef, undef, undef, undef, undef]) (H' := fun L => [(L.b 0, PC x), (L.b 1, PC y), (L.b 2, PC 0)]) (by kernel_rfl) rfl rfl rfl (fun L => by kernel_rfl) (fun L => by kernel_rfl) hp0 ⟨
    ob_box (v := PV x) (fun _ => rfl) rfl rfl (fun _ => by kernel_rfl) rfl,
    ob_box (v := PV y) (fun _ => rfl) rfl rfl (fun _ => by kernel_rfl) rfl,
    ob_alloc (v := PV 0) (fun _ => rfl) rfl rfl zeroP rfl,
    trivial⟩ (fun L0 w1 hp1 => ?_)
  refine k1 _ _ ?_
  refine wp_seq_k (fun K2 k2 => ?_)
  refine draws (by kernel_rfl) (ks := [.det (.pointer (some ⟨(L0.b 0), 0, none⟩)), .det (FV x.c0), .det (.pointer (some ⟨(L0.b 1), 0, none⟩)), .det (FV y.c0), .det (FV ((x.c0 + y.c0))), .det (.pointer (some ⟨(L0.b 0), 6, none⟩)), .det (FV x.c1), .det (.pointer (some ⟨(L0.b 1), 6, none⟩)), .det (FV y.c1), .det (FV ((x.c1 + y.c1))), .det (PV (⟨(x.c0 + y.c0), (x.c1 + y.c1)⟩)), .store (.base 2) 0 (PC (⟨(x.c0 + y.c0), (x.c1 + y.c1)⟩)) (PC (⟨(x.c0 + y.c0), (x.c1 + y.c1)⟩))]) (T := [0, 1, 0, 4, 15, 0, 32, 0, 128, 511, 1023, 2047]) (nt := 16) (nh := 3) (H := [((L0.b 0), PC x), ((L0.b 1), PC y), ((L0.b 2), PC 0)]) (A := fun L => [PV x, PV y, .pointer (some ⟨(L0.b 0), 0, none⟩), .pointer (some ⟨(L0.b 1), 0, none⟩), .pointer (some ⟨(L0.b 2), 0, none⟩), .pointer (some ⟨(L0.b 0), 0, none⟩), FV x.c0, .pointer (some ⟨(L0.b 1), 0, none⟩), FV y.c0, FV ((x.c0 + y.c0)), .pointer (some ⟨(L0.b 0), 6, none⟩), FV x.c1, .pointer (some ⟨(L0.b 1), 6, none⟩), FV y.c1, FV ((x.c1 + y.c1)), PV (⟨(x.c0 + y.c0), (x.c1 + y.c1)⟩)]) (H' := fun L => [((L0.b 0), PC x), ((L0.b 1), PC y), ((L0.b 2), PC (⟨(x.c0 + y.c0), (x.c1 + y.c1)⟩))]) (by kernel_rfl) rfl rfl rfl (fun L => by kernel_rfl) (fun L => by kernel_rfl) hp1 ⟨
    ob_index (b := (L0.b 0)) (off := 0) (k := 0) (sz := 6) (n := 2) (fun _ => rfl) rfl rfl (fun _ => by kernel_rfl) (fun _ => by kernel_rfl) Tryd.underlying26 sizeF (by decide) rfl,
    ob_load (b := (L0.b 0)) (off := 0) (cs := FC x.c0) (by kernel_rfl) (fun _ => rfl) rfl rfl (fun _ => by kernel_rfl) (fun _ _ hs => partF2_0 (seen_at (k := 0) hs rfl)) Tryd.underlying24 rfl (sizeFC _),
    ob_index (b := (L0.b 1)) (off := 0) (k := 0) (sz := 6) (n := 2) (fun _ => rfl) rfl rfl (fun _ => by kernel_rfl) (fun _ => by kernel_rfl) Tryd.underlying26 sizeF (by decide) rfl,
    ob_load (b := (L0.b 1)) (off := 0) (cs := FC y.c0) (by kernel_rfl) (fun _ => rfl) rfl rfl (fun _ => by kernel_rfl) (fun _ _ hs => partF2_0 (seen_at (k := 1) hs rfl)) Tryd.underlying24 rfl (sizeFC _),
    ob_call (vs := #[FV x.c0, FV y.c0]) (by kernel_rfl) (by kernel_rfl) (fun _ => rfl) rfl rfl (fun _ => by kernel_rfl) (fun w hb _ => K.add _ _ w (K.stay hg hb)),
    ob_index (b := (L0.b 0)) (off := 0) (k := 1) (sz := 6) (n := 2) (fun _ => rfl) rfl rfl (fun _ => by kernel_rfl) (fun _ => by kernel_rfl) Tryd.underlying26 sizeF (by decide) rfl,
    ob_load (b := (L0.b 0)) (off := 6) (cs := FC x.c1) (by kernel_rfl) (fun _ => rfl) rfl rfl (fun _ => by kernel_rfl) (fun _ _ hs => partF2_1 (seen_at (k := 0) hs rfl)) Tryd.underlying24 rfl (sizeFC _),
    ob_index (b := (L0.b 1)) (off := 0) (k := 1) (sz := 6) (n := 2) (fun _ => rfl) rfl rfl (fun _ => by kernel_rfl) (fun _ => by kernel_rfl) Tryd.underlying26 sizeF (by decide) rfl,
    ob_load (b := (L0.b 1)) (off := 6) (cs := FC y.c1) (by kernel_rfl) (fun _ => rfl) rfl rfl (fun _ => by kernel_rfl) (fun _ _ hs => partF2_1 (seen_at (k := 1) hs rfl)) Tryd.underlying24 rfl (sizeFC _),
    ob_call (vs := #[FV x.c1, FV y.c1]) (by kernel_rfl) (by kernel_rfl) (fun _ => rfl) rfl rfl (fun _ => by kernel_rfl) (fun w hb _ => K.add _ _ w (K.stay hg hb)),
    ob_build (qs := #[(0, FV ((x.c0 + y.c0))), (1, FV ((x.c1 + y.c1)))]) (fun _ => rfl) rfl rfl (fun _ => by kernel_rfl) (buildP _ _),
    ob_store (old := PC 0) (fun _ => rfl) rfl rfl (fun _ => by kernel_rfl) (fun _ => by kernel_rfl) rfl (sizePC _) (PC_one _) (le_len (PC_len _) (PC_len _) (by decide)) (splice_all ((PC_len _).trans (PC_len _).symm)).symm,
    trivial⟩ (fun L1 w2 hp2 => ?_)
  refine k2 _ _ ?_
  refine wp_ret ?_
  exact bodyPost_ret (v := PV (⟨(x.c0 + y.c0), (x.c1 + y.c1)⟩)) (res_c rfl (by kernel_rfl) (hp2.bound 2 rfl).2 Tryd.underlying26 rfl (sizePC _)) rfl ⟨rfl, hp2.bel⟩
set_option maxHeartbeats 4000000 in
theorem fp2Sub {G : World → Prop} (K : FpK G) (x y : F2) (w : World) (hg : G w) : Calls Tryd.prog 14 #[PV x, PV y] w (Ret (PV (x - y)) w) := by
  have hp0 := Heap.start w
  go_enter Tryd.func14, Tryd.ntmps14
  refine wp_seq_k (fun K1 k1 => ?_)
  refine goes (ks := [.alloc (PC x), .alloc (PC y), .alloc (PC 0)]) (T := [0, 0, 0]) (nt := 16) (nh := 0) (H := []) (A := fun L => [PV x, PV y, .pointer (some ⟨L.b 0, 0, none⟩), .pointer (some ⟨L.b 1, 0, none⟩), .pointer (some ⟨L.b 2, 0, none⟩), undef, undef, undef, undef, undef, undef, undef, undef, undef, undef, undef]) (H' := fun L => [(L.b 0, PC x), (L.b 1, PC y), (L.b 2, PC 0)]) (by kernel_rfl) rfl rfl rfl (fun L => by kernel_rfl) (fun L => by kernel_rfl) hp0 ⟨
    ob_box (v := PV x) (fun _ => rfl) rfl rfl (fun _ => by kernel_rfl) rfl,
    ob_box (v := PV y) (fun _ => rfl) rfl rfl (fun _ => by kernel_rfl) rfl,
    ob_alloc (v := PV 0) (fun _ => rfl) rfl rfl zeroP rfl,
    trivial⟩ (fun L0 w1 hp1 => ?_)
  refine k1 _ _ ?_
  refine wp_seq_k (fun K2 k2 => ?_)
  refine draws (by kernel_rfl) (ks := [.det (.pointer (some ⟨(L0.b 0), 0, none⟩)), .det (FV x.c0), .det (.pointer (some ⟨(L0.b 1), 0, none⟩)), .det (FV y.c0), .det (FV ((x.c0 - y.c0))), .det (.pointer (some ⟨(L0.b 0), 6, none⟩)), .det (FV x.c1), .det (.pointer (some ⟨(L0.b 1), 6, none⟩)), .det (FV y.c1), .det (FV ((x.c1 - y.c1))), .det (PV (⟨(x.c0 - y.c0), (x.c1 - y.c1)⟩)), .store (.base 2) 0 (PC (⟨(x.c0 - y.c0), (x.c1 - y.c1)⟩)) (PC (⟨(x.c0 - y.c0), (x.c1 - y.c1)⟩))]) (T := [0, 1, 0, 4, 15, 0, 32, 0, 128, 511, 1023, 2047]) (nt := 16) (nh := 3) (H := [((L0.b 0), PC x), ((L0.b 1), PC y), ((L0.b 2), PC 0)]) (A := fun L => [PV x, PV y, .pointer (some ⟨(L0.b 0), 0, none⟩), .pointer (some ⟨(L0.b 1), 0, none⟩), .pointer (some ⟨(L0.b 2), 0, none⟩), .pointer (some ⟨(L0.b 0), 0, none⟩), FV x.c0, .pointer (some ⟨(L0.b 1), 0, none⟩), FV y.c0, FV ((x.c0 - y.c0)), .pointer (some ⟨(L0.b 0), 6, none⟩), FV x.c1, .pointer (some ⟨(L0.b 1), 6, none⟩), FV y.c1, FV ((x.c1 - y.c1)), PV (⟨(x.c0 - y.c0), (x.c1 - y.c1)⟩)]) (H' := fun L => [((L0.b 0), PC x), ((L0.b 1), PC y), ((L0.b 2), PC (⟨(x.c0 - y.c0), (x.c1 - y.c1)⟩))]) (by kernel_rfl) rfl rfl rfl (fun L => by kernel_rfl) (fun L => by kernel_rfl) hp1 ⟨
    ob_index (b := (L0.b 0)) (off := 0) (k := 0) (sz := 6) (n := 2) (fun _ => rfl) rfl rfl (fun _ => by kernel_rfl) (fun _ => by kernel_rfl) Tryd.underlying26 sizeF (by decide) rfl,
    ob_load (b := (L0.b 0)) (off := 0) (cs := FC x.c0) (by kernel_rfl) (fun _ => rfl) rfl rfl (fun _ => by kernel_rfl) (fun _ _ hs => partF2_0 (seen_at (k := 0) hs rfl)) Tryd.underlying24 rfl (sizeFC _),
    ob_index (b := (L0.b 1)) (off := 0) (k := 0) (sz := 6) (n := 2) (fun _ => rfl) rfl rfl (fun _ => by kernel_rfl) (fun _ => by kernel_rfl) Tryd.underlying26 sizeF (by decide) rfl,
    ob_load (b := (L0.b 1)) (off := 0) (cs := FC y.c0) (by kernel_rfl) (fun _ => rfl) rfl rfl (fun _ => by kernel_rfl) (fun _ _ hs => partF2_0 (seen_at (k := 1) hs rfl)) Tryd.underlying24 rfl (sizeFC _),
    ob_call (vs := #[FV x.c0, FV y.c0]) (by kernel_rfl) (by kernel_rfl) (fun _ => rfl) rfl rfl (fun _ => by kernel_rfl) (fun w hb _ => K.sub _ _ w (K.stay hg hb)),
    ob_index (b := (L0.b 0)) (off := 0) (k := 1) (sz := 6) (n := 2) (fun _ => rfl) rfl rfl (fun _ => by kernel_rfl) (fun _ => by kernel_rfl) Tryd.underlying26 sizeF (by decide) rfl,
    ob_load (b := (L0.b 0)) (off := 6) (cs := FC x.c1) (by kernel_rfl) (fun _ => rfl) rfl rfl (fun _ => by kernel_rfl) (fun _ _ hs => partF2_1 (seen_at (k := 0) hs rfl)) Tryd.underlying24 rfl (sizeFC _),
    ob_index (b := (L0.b 1)) (off := 0) (k := 1) (sz := 6) (n := 2) (fun _ => rfl) rfl rfl (fun _ => by kernel_rfl) (fun _ => by kernel_rfl) Tryd.underlying26 sizeF (by decide) rfl,
    ob_load (b := (L0.b 1)) (off := 6) (cs := FC y.c1) (by kernel_rfl) (fun _ => rfl) rfl rfl (fun _ => by kernel_rfl) (fun _ _ hs => partF2_1 (seen_at (k := 1) hs rfl)) Tryd.underlying24 rfl (sizeFC _),
    ob_call (vs := #[FV x.c1, FV y.c1]) (by kernel_rfl) (by kernel_rfl) (fun _ => rfl) rfl rfl (fun _ => by kernel_rfl) (fun w hb _ => K.sub _ _ w (K.stay hg hb)),
    ob_build (qs := #[(0, FV ((x.c0 - y.c0))), (1, FV ((x.c1 - y.c1)))]) (fun _ => rfl) rfl rfl (fun _ => by kernel_rfl) (buildP _ _),
    ob_store (old := PC 0) (fun _ => rfl) rfl rfl (fun _ => by kernel_rfl) (fun _ => by kernel_rfl) rfl (sizePC _) (PC_one _) (le_len (PC_len _) (PC_len _) (by decide)) (splice_all ((PC_len _).trans (PC_len _).symm)).symm,
    trivial⟩ (fun L1 w2 hp2 => ?_)
  refine k2 _ _ ?_
  refine wp_ret ?_
  exact bodyPost_ret (v := PV (⟨(x.c0 - y.c0), (x.c1 - y.c1)⟩)) (res_c rfl (by kernel_rfl) (hp2.bound 2 rfl).2 Tryd.underlying26 rfl (sizePC _)) rfl ⟨rfl, hp2.bel⟩
set_option maxHeartbeats 4000000 in
theorem fp2Neg {G : World → Prop} (K : FpK G) (x : F2) (w : World) (hg : G w) : Calls Tryd.prog 16 #[PV x] w (Ret (PV (-x)) w) := by
  have hp0 := Heap.start w
  go_enter Tryd.func16, Tryd.ntmps16
  refine wp_seq_k (fun K1 k1 => ?_)
  refine goes (ks := [.alloc (PC x), .alloc (PC 0)]) (T := [0, 0]) (nt := 10) (nh := 0) (H := []) (A := fun L => [PV x, .pointer (some ⟨L.b 0, 0, none⟩), .pointer (some ⟨L.b 1, 0, none⟩), undef, undef, undef, undef, undef, undef, undef]) (H' := fun L => [(L.b 0, PC x), (L.b 1, PC 0)]) (by kernel_rfl) rfl rfl rfl (fun L => by kernel_rfl) (fun L => by kernel_rfl) hp0 ⟨
    ob_box (v := PV x) (fun _ => rfl) rfl rfl (fun _ => by kernel_rfl) rfl,
    ob_alloc (v := PV 0) (fun _ => rfl) rfl rfl zeroP rfl,
    trivial⟩ (fun L0 w1 hp1 => ?_)
  refine k1 _ _ ?_
  refine wp_seq_k (fun K2 k2 => ?_)
  refine draws (by kernel_rfl) (ks := [.det (.pointer (some ⟨(L0.b 0), 0, none⟩)), .det (FV x.c0), .det (FV ((-x.c0))), .det (.pointer (some ⟨(L0.b 0), 6, none⟩)), .det (FV x.c1), .det (FV ((-x.c1))), .det (PV (⟨(-x.c0), (-x.c1)⟩)), .store (.base 1) 0 (PC (⟨(-x.c0), (-x.c1)⟩)) (PC (⟨(-x.c0), (-x.c1)⟩))]) (T := [0, 1, 3, 0, 8, 31, 63, 127]) (nt := 10) (nh := 2) (H := [((L0.b 0), PC x), ((L0.b 1), PC 0)]) (A := fun L => [PV x, .pointer (some ⟨(L0.b 0), 0, none⟩), .pointer (some ⟨(L0.b 1), 0, none⟩), .pointer (some ⟨(L0.b 0), 0, none⟩), FV x.c0, FV ((-x.c0)), .pointer (some ⟨(L0.b 0), 6, none⟩), FV x.c1, FV ((-x.c1)), PV (⟨(-x.c0), (-x.c1)⟩)]) (H' := fun L => [((L0.b 0), PC x), ((L0.b 1), PC (⟨(-x.c0), (-x.c1)⟩))]) (by kernel_rfl) rfl rfl rfl (fun L => by kernel_rfl) (fun L => by kernel_rfl) hp1 ⟨
    ob_index (b := (L0.b 0)) (off := 0) (k := 0) (sz := 6) (n := 2) (fun _ => rfl) rfl rfl (fun _ => by kernel_rfl) (fun _ => by kernel_rfl) Tryd.underlying26 sizeF (by decide) rfl,
    ob_load (b := (L0.b 0)) (off := 0) (cs := FC x.c0) (by kernel_rfl) (fun _ => rfl) rfl rfl (fun _ => by kernel_rfl) (fun _ _ hs => partF2_0 (seen_at (k := 0) hs rfl)) Tryd.underlying24 rfl (sizeFC _),
    ob_call (vs := #[FV x.c0]) (by kernel_rfl) (by kernel_rfl) (fun _ => rfl) rfl rfl (fun _ => by kernel_rfl) (fun w hb _ => K.neg _ w (K.stay hg hb)),
    ob_index (b := (L0.b 0)) (off := 0) (k := 1) (sz := 6) (n := 2) (fun _ => rfl) rfl rfl (fun _ => by kernel_rfl) (fun _ => by kernel_rfl) Tryd.underlying26 sizeF (by decide) rfl,
    ob_load (b := (L0.b 0)) (off := 6) (cs := FC x.c1) (by kernel_rfl) (fun _ => rfl) rfl rfl (fun _ => by kernel_rfl) (fun _ _ hs => partF2_1 (seen_at (k := 0) hs rfl)) Tryd.underlying24 rfl (sizeFC _),
    ob_call (vs := #[FV x.c1]) (by kernel_rfl) (by kernel_rfl) (fun _ => rfl) rfl rfl (fun _ => by kernel_rfl) (fun w hb _ => K.neg _ w (K.stay hg hb)),
    ob_build (qs := #[(0, FV ((-x.c0))), (1, FV ((-x.c1)))]) (fun _ => rfl) rfl rfl (fun _ => by kernel_rfl) (buildP _ _),
    ob_store (old := PC 0) (fun _ => rfl) rfl rfl (fun _ => by kernel_rfl) (fun _ => by kernel_rfl) rfl (sizePC _) (PC_one _) (le_len (PC_len _) (PC_len _) (by decide)) (splice_all ((PC_len _).trans (PC_len _).symm)).symm,
    trivial⟩ (fun L1 w2 hp2 => ?_)
  refine k2 _ _ ?_
  refine wp_ret ?_
  exact bodyPost_ret (v := PV (⟨(-x.c0), (-x.c1)⟩)) (res_c rfl (by kernel_rfl) (hp2.bound 1 rfl).2 Tryd.underlying26 rfl (sizePC _)) rfl ⟨rfl, hp2.bel⟩
set_option maxHeartbeats 4000000 in
theorem fp2Mul {G : World → Prop} (K : FpK G) (x y : F2) (w : World) (hg : G w) : Calls Tryd.prog 18 #[PV x, PV y] w (Ret (PV (x * y)) w) := by
  have hp0 := Heap.start w
  go_enter Tryd.func18, Tryd.ntmps18
  refine wp_seq_k (fun K1 k1 => ?_)
  refine goes (ks := [.alloc (PC x), .alloc (PC y), .alloc (PC 0)]) (T := [0, 0, 0]) (nt := 38) (nh := 0) (H := []) (A := fun L => [PV x, PV y, .pointer (some ⟨L.b 0, 0, none⟩), .pointer (some ⟨L.b 1, 0, none⟩), .pointer (some ⟨L.b 2, 0, none⟩), undef, undef, undef, undef, undef, undef, undef, undef, undef, undef, undef, undef, undef, undef, undef, undef, undef, undef, undef, undef, undef, undef, undef, undef, undef, undef, undef, undef, undef, undef, undef, undef, undef]) (H' := fun L => [(L.b 0, PC x), (L.b 1, PC y), (L.b 2, PC 0)]) (by kernel_rfl) rfl rfl rfl (fun L => by kernel_rfl) (fun L => by kernel_rfl) hp0 ⟨
    ob_box (v := PV x) (fun _ => rfl) rfl rfl (fun _ => by kernel_rfl) rfl,
    ob_box (v := PV y) (fun _ => rfl) rfl rfl (fun _ => by kernel_rfl) rfl,
    ob_alloc (v := PV 0) (fun _ => rfl) rfl rfl zeroP rfl,
    trivial⟩ (fun L0 w1 hp1 => ?_)
  refine k1 _ _ ?_
  refine wp_seq_k (fun K2 k2 => ?_)
  refine draws (by kernel_rfl) (ks := [.det (.pointer (some ⟨(L0.b 0), 0, none⟩)), .det (FV x.c0), .det (.pointer (some ⟨(L0.b 1), 0, none⟩)), .det (FV y.c0), .det (FV ((x.c0 * y.c0))), .det (.pointer (some ⟨(L0.b 0), 6, none⟩)), .det (FV x.c1), .det (.pointer (some ⟨(L0.b 1), 6, none⟩)), .det (FV y.c1), .det (FV ((x.c1 * y.c1))), .alloc (FC 0), .alloc (FC 0), .store (.new 10) 0 (FC ((x.c0 * y.c0))) (FC ((x.c0 * y.c0))), .store (.new 11) 0 (FC ((x.c1 * y.c1))) (FC ((x.c1 * y.c1)))]) (T := [0, 1, 0, 4, 15, 0, 32, 0, 128, 511, 0, 0, 4095, 8191]) (nt := 38) (nh := 3) (H := [((L0.b 0), PC x), ((L0.b 1), PC y), ((L0.b 2), PC 0)]) (A := fun L => [PV x, PV y, .pointer (some ⟨(L0.b 0), 0, none⟩), .pointer (some ⟨(L0.b 1), 0, none⟩), .pointer (some ⟨(L0.b 2), 0, none⟩), .pointer (some ⟨L.b 10, 0, none⟩), .pointer (some ⟨L.b 11, 0, none⟩), undef, .pointer (some ⟨(L0.b 0), 0, none⟩), FV x.c0, .pointer (some ⟨(L0.b 1), 0, none⟩), FV y.c0, FV ((x.c0 * y.c0)), .pointer (some ⟨(L0.b 0), 6, none⟩), FV x.c1, .pointer (some ⟨(L0.b 1), 6, none⟩), FV y.c1, FV ((x.c1 * y.c1)), undef, undef, undef, undef, undef, undef, undef, undef, undef, undef, undef, undef, undef, undef, undef, undef, undef, undef, undef, undef]) (H' := fun L => [((L0.b 0), PC x), ((L0.b 1), PC y), ((L0.b 2), PC 0), (L.b 10, FC ((x.c0 * y.c0))), (L.b 11, FC ((x.c1 * y.c1)))]) (by kernel_rfl) rfl rfl rfl (fun L => by kernel_rfl) (fun L => by kernel_rfl) hp1 ⟨
    ob_index (b := (L0.b 0)) (off := 0) (k := 0) (sz := 6) (n := 2) (fun _ => rfl) rfl rfl (fun _ => by kernel_rfl) (fun _ => by kernel_rfl) Tryd.underlying26 sizeF (by decide) rfl,
    ob_load (b := (L0.b 0)) (off := 0) (cs := FC x.c0) (by kernel_rfl) (fun _ => rfl) rfl rfl (fun _ => by kernel_rfl) (fun _ _ hs => partF2_0 (seen_at (k := 0) hs rfl)) Tryd.underlying24 rfl (sizeFC _),
    ob_index (b := (L0.b 1)) (off := 0) (k := 0) (sz := 6) (n := 2) (fun _ => rfl) rfl rfl (fun _ => by kernel_rfl) (fun _ => by kernel_rfl) Tryd.underlying26 sizeF (by decide) rfl,
    ob_load (b := (L0.b 1)) (off := 0) (cs := FC y.c0) (by kernel_rfl) (fun _ => rfl) rfl rfl (fun _ => by kernel_rfl) (fun _ _ hs => partF2_0 (seen_at (k := 1) hs rfl)) Tryd.underlying24 rfl (sizeFC _),
    ob_call (vs := #[FV x.c0, FV y.c0]) (by kernel_rfl) (by kernel_rfl) (fun _ => rfl) rfl rfl (fun _ => by kernel_rfl) (fun w hb _ => K.mul _ _ w (K.stay hg hb)),
    ob_index (b := (L0.b 0)) (off := 0) (k := 1) (sz := 6) (n := 2) (fun _ => rfl) rfl rfl (fun _ => by kernel_rfl) (fun _ => by kernel_rfl) Tryd.underlying26 sizeF (by decide) rfl,
    ob_load (b := (L0.b 0)) (off := 6) (cs := FC x.c1) (by kernel_rfl) (fun _ => rfl) rfl rfl (fun _ => by kernel_rfl) (fun _ _ hs => partF2_1 (seen_at (k := 0) hs rfl)) Tryd.underlying24 rfl (sizeFC _),
    ob_index (b := (L0.b 1)) (off := 0) (k := 1) (sz := 6) (n := 2) (fun _ => rfl) rfl rfl (fun _ => by kernel_rfl) (fun _ => by kernel_rfl) Tryd.underlying26 sizeF (by decide) rfl,
    ob_load (b := (L0.b 1)) (off := 6) (cs := FC y.c1) (by kernel_rfl) (fun _ => rfl) rfl rfl (fun _ => by kernel_rfl) (fun _ _ hs => partF2_1 (seen_at (k := 1) hs rfl)) Tryd.underlying24 rfl (sizeFC _),
    ob_call (vs := #[FV x.c1, FV y.c1]) (by kernel_rfl) (by kernel_rfl) (fun _ => rfl) rfl rfl (fun _ => by kernel_rfl) (fun w hb _ => K.mul _ _ w (K.stay hg hb)),
    ob_alloc (v := FV 0) (fun _ => rfl) rfl rfl zeroF rfl,
    ob_alloc (v := FV 0) (fun _ => rfl) rfl rfl zeroF rfl,
    ob_store (old := FC 0) (fun _ => rfl) rfl rfl (fun _ => by kernel_rfl) (fun _ => by kernel_rfl) rfl (sizeFC _) (FC_one _) (le_len (FC_len _) (FC_len _) (by decide)) (splice_all ((FC_len _).trans (FC_len _).symm)).symm,
    ob_store (old := FC 0) (fun _ => rfl) rfl rfl (fun _ => by kernel_rfl) (fun _ => by kernel_rfl) rfl (sizeFC _) (FC_one _) (le_len (FC_len _) (FC_len _) (by decide)) (splice_all ((FC_len _).trans (FC_len _).symm)).symm,
    trivial⟩ (fun L1 w2 hp2 => ?_)
  refine k2 _ _ ?_
  refine wp_seq_k (fun K3 k3 => ?_)
  refine draws (by kernel_rfl) (ks := [.det (.pointer (some ⟨(L0.b 0), 0, none⟩)), .det (FV x.c0), .det (.pointer (some ⟨(L0.b 0), 6, none⟩)), .det (FV x.c1), .det (FV ((x.c0 + x.c1))), .det (.pointer (some ⟨(L0.b 1), 0, none⟩)), .det (FV y.c0), .det (.pointer (some ⟨(L0.b 1), 6, none⟩)), .det (FV y.c1), .det (FV ((y.c0 + y.c1))), .det (FV (((x.c0 + x.c1) * (y.c0 + y.c1)))), .alloc (FC 0), .store (.new 11) 0 (FC (((x.c0 + x.c1) * (y.c0 + y.c1)))) (FC (((x.c0 + x.c1) * (y.c0 + y.c1))))]) (T := [0, 1, 0, 4, 15, 0, 32, 0, 128, 511, 1023, 0, 4095]) (nt := 38) (nh := 5) (H := [((L0.b 0), PC x), ((L0.b 1), PC y), ((L0.b 2), PC 0), ((L1.b 10), FC ((x.c0 * y.c0))), ((L1.b 11), FC ((x.c1 * y.c1)))]) (A := fun L => [PV x, PV y, .pointer (some ⟨(L0.b 0), 0, none⟩), .pointer (some ⟨(L0.b 1), 0, none⟩), .pointer (some ⟨(L0.b 2), 0, none⟩), .pointer (some ⟨(L1.b 10), 0, none⟩), .pointer (some ⟨(L1.b 11), 0, none⟩), .pointer (some ⟨L.b 11, 0, none⟩), .pointer (some ⟨(L0.b 0), 0, none⟩), FV x.c0, .pointer (some ⟨(L0.b 1), 0, none⟩), FV y.c0, FV ((x.c0 * y.c0)), .pointer (some ⟨(L0.b 0), 6, none⟩), FV x.c1, .pointer (some ⟨(L0.b 1), 6, none⟩), FV y.c1, FV ((x.c1 * y.c1)), .pointer (some ⟨(L0.b 0), 0, none⟩), FV x.c0, .pointer (some ⟨(L0.b 0), 6, none⟩), FV x.c1, FV ((x.c0 + x.c1)), .pointer (some ⟨(L0.b 1), 0, none⟩), FV y.c0, .pointer (some ⟨(L0.b 1), 6, none⟩), FV y.c1, FV ((y.c0 + y.c1)), FV (((x.c0 + x.c1) * (y.c0 + y.c1))), undef, undef, undef, undef, undef, undef, undef, undef, undef]) (H' := fun L => [((L0.b 0), PC x), ((L0.b 1), PC y), ((L0.b 2), PC 0), ((L1.b 10), FC ((x.c0 * y.c0))), ((L1.b 11), FC ((x.c1 * y.c1))), (L.b 11, FC (((x.c0 + x.c1) * (y.c0 + y.c1))))]) (by kernel_rfl) rfl rfl rfl (fun L => by kernel_rfl) (fun L => by kernel_rfl) hp2 ⟨
    ob_index (b := (L0.b 0)) (off := 0) (k := 0) (sz := 6) (n := 2) (fun _ => rfl) rfl rfl (fun _ => by kernel_rfl) (fun _ => by kernel_rfl) Tryd.underlying26 sizeF (by decide) rfl,
    ob_load (b := (L0.b 0)) (off := 0) (cs := FC x.c0) (by kernel_rfl) (fun _ => rfl) rfl rfl (fun _ => by kernel_rfl) (fun _ _ hs => partF2_0 (seen_at (k := 0) hs rfl)) Tryd.underlying24 rfl (sizeFC _),
    ob_index (b := (L0.b 0)) (off := 0) (k := 1) (sz := 6) (n := 2) (fun _ => rfl) rfl rfl (fun _ => by kernel_rfl) (fun _ => by kernel_rfl) Tryd.underlying26 sizeF (by decide) rfl,
    ob_load (b := (L0.b 0)) (off := 6) (cs := FC x.c1) (by kernel_rfl) (fun _ => rfl) rfl rfl (fun _ => by kernel_rfl) (fun _ _ hs => partF2_1 (seen_at (k := 0) hs rfl)) Tryd.underlying24 rfl (sizeFC _),
    ob_call (vs := #[FV x.c0, FV x.c1]) (by kernel_rfl) (by kernel_rfl) (fun _ => rfl) rfl rfl (fun _ => by kernel_rfl) (fun w hb _ => K.add _ _ w (K.stay hg hb)),
    ob_index (b := (L0.b 1)) (off := 0) (k := 0) (sz := 6) (n := 2) (fun _ => rfl) rfl rfl (fun _ => by kernel_rfl) (fun _ => by kernel_rfl) Tryd.underlying26 sizeF (by decide) rfl,
    ob_load (b := (L0.b 1)) (off := 0) (cs := FC y.c0) (by kernel_rfl) (fun _ => rfl) rfl rfl (fun _ => by kernel_rfl) (fun _ _ hs => partF2_0 (seen_at (k := 1) hs rfl)) Tryd.underlying24 rfl (sizeFC _),
    ob_index (b := (L0.b 1)) (off := 0) (k := 1) (sz := 6) (n := 2) (fun _ => rfl) rfl rfl (fun _ => by kernel_rfl) (fun _ => by kernel_rfl) Tryd.underlying26 sizeF (by decide) rfl,
    ob_load (b := (L0.b 1)) (off := 6) (cs := FC y.c1) (by kernel_rfl) (fun _ => rfl) rfl rfl (fun _ => by kernel_rfl) (fun _ _ hs => partF2_1 (seen_at (k := 1) hs rfl)) Tryd.underlying24 rfl (sizeFC _),
    ob_call (vs := #[FV y.c0, FV y.c1]) (by kernel_rfl) (by kernel_rfl) (fun _ => rfl) rfl rfl (fun _ => by kernel_rfl) (fun w hb _ => K.add _ _ w (K.stay hg hb)),
    ob_call (vs := #[FV ((x.c0 + x.c1)), FV ((y.c0 + y.c1))]) (by kernel_rfl) (by kernel_rfl) (fun _ => rfl) rfl rfl (fun _ => by kernel_rfl) (fun w hb _ => K.mul _ _ w (K.stay hg hb)),
    ob_alloc (v := FV 0) (fun _ => rfl) rfl rfl zeroF rfl,
    ob_store (old := FC 0) (fun _ => rfl) rfl rfl (fun _ => by kernel_rfl) (fun _ => by kernel_rfl) rfl (sizeFC _) (FC_one _) (le_len (FC_len _) (FC_len _) (by decide)) (splice_all ((FC_len _).trans (FC_len _).symm)).symm,
    trivial⟩ (fun L2 w3 hp3 => ?_)
  refine k3 _ _ ?_
  refine wp_seq_k (fun K4 k4 => ?_)
  refine draws (by kernel_rfl) (ks := [.det (FV ((x.c0 * y.c0))), .det (FV ((x.c1 * y.c1))), .det (FV (((x.c0 * y.c0) - (x.c1 * y.c1)))), .det (FV (((x.c0 + x.c1) * (y.c0 + y.c1)))), .det (FV ((x.c0 * y.c0))), .det (FV ((((x.c0 + x.c1) * (y.c0 + y.c1)) - (x.c0 * y.c0)))), .det (FV ((x.c1 * y.c1))), .det (FV (((((x.c0 + x.c1) * (y.c0 + y.c1)) - (x.c0 * y.c0)) - (x.c1 * y.c1)))), .det (PV (⟨((x.c0 * y.c0) - (x.c1 * y.c1)), ((((x.c0 + x.c1) * (y.c0 + y.c1)) - (x.c0 * y.c0)) - (x.c1 * y.c1))⟩)), .store (.base 2) 0 (PC (⟨((x.c0 * y.c0) - (x.c1 * y.c1)), ((((x.c0 + x.c1) * (y.c0 + y.c1)) - (x.c0 * y.c0)) - (x.c1 * y.c1))⟩)) (PC (⟨((x.c0 * y.c0) - (x.c1 * y.c1)), ((((x.c0 + x.c1) * (y.c0 + y.c1)) - (x.c0 * y.c0)) - (x.c1 * y.c1))⟩))]) (T := [0, 0, 3, 0, 0, 31, 0, 127, 255, 511]) (nt := 38) (nh := 6) (H := [((L0.b 0), PC x), ((L0.b 1), PC y), ((L0.b 2), PC 0), ((L1.b 10), FC ((x.c0 * y.c0))), ((L1.b 11), FC ((x.c1 * y.c1))), ((L2.b 11), FC (((x.c0 + x.c1) * (y.c0 + y.c1))))]) (A := fun L => [PV x, PV y, .pointer (some ⟨(L0.b 0), 0, none⟩), .pointer (some ⟨(L0.b 1), 0, none⟩), .pointer (some ⟨(L0.b 2), 0, none⟩), .pointer (some ⟨(L1.b 10), 0, none⟩), .pointer (some ⟨(L1.b 11), 0, none⟩), .pointer (some ⟨(L2.b 11), 0, none⟩), .pointer (some ⟨(L0.b 0), 0, none⟩), FV x.c0, .pointer (some ⟨(L0.b 1), 0, none⟩), FV y.c0, FV ((x.c0 * y.c0)), .pointer (some ⟨(L0.b 0), 6, none⟩), FV x.c1, .pointer (some ⟨(L0.b 1), 6, none⟩), FV y.c1, FV ((x.c1 * y.c1)), .pointer (some ⟨(L0.b 0), 0, none⟩), FV x.c0, .pointer (some ⟨(L0.b 0), 6, none⟩), FV x.c1, FV ((x.c0 + x.c1)), .pointer (some ⟨(L0.b 1), 0, none⟩), FV y.c0, .pointer (some ⟨(L0.b 1), 6, none⟩), FV y.c1, FV ((y.c0 + y.c1)), FV (((x.c0 + x.c1) * (y.c0 + y.c1))), FV ((x.c0 * y.c0)), FV ((x.c1 * y.c1)), FV (((x.c0 * y.c0) - (x.c1 * y.c1))), FV (((x.c0 + x.c1) * (y.c0 + y.c1))), FV ((x.c0 * y.c0)), FV ((((x.c0 + x.c1) * (y.c0 + y.c1)) - (x.c0 * y.c0))), FV ((x.c1 * y.c1)), FV (((((x.c0 + x.c1) * (y.c0 + y.c1)) - (x.c0 * y.c0)) - (x.c1 * y.c1))), PV (⟨((x.c0 * y.c0) - (x.c1 * y.c1)), ((((x.c0 + x.c1) * (y.c0 + y.c1)) - (x.c0 * y.c0)) - (x.c1 * y.c1))⟩)]) (H' := fun L => [((L0.b 0), PC x), ((L0.b 1), PC y), ((L0.b 2), PC (⟨((x.c0 * y.c0) - (x.c1 * y.c1)), ((((x.c0 + x.c1) * (y.c0 + y.c1)) - (x.c0 * y.c0)) - (x.c1 * y.c1))⟩)), ((L1.b 10), FC ((x.c0 * y.c0))), ((L1.b 11), FC ((x.c1 * y.c1))), ((L2.b 11), FC (((x.c0 + x.c1) * (y.c0 + y.c1))))]) (by kernel_rfl) rfl rfl rfl (fun L => by kernel_rfl) (fun L => by kernel_rfl) hp3 ⟨
    ob_load (b := (L1.b 10)) (off := 0) (cs := FC ((x.c0 * y.c0))) (by kernel_rfl) (fun _ => rfl) rfl rfl (fun _ => by kernel_rfl) (fun _ _ hs => (seen_at (k := 3) hs rfl).cells) Tryd.underlying24 rfl (sizeFC _),
    ob_load (b := (L1.b 11)) (off := 0) (cs := FC ((x.c1 * y.c1))) (by kernel_rfl) (fun _ => rfl) rfl rfl (fun _ => by kernel_rfl) (fun _ _ hs => (seen_at (k := 4) hs rfl).cells) Tryd.underlying24 rfl (sizeFC _),
    ob_call (vs := #[FV ((x.c0 * y.c0)), FV ((x.c1 * y.c1))]) (by kernel_rfl) (by kernel_rfl) (fun _ => rfl) rfl rfl (fun _ => by kernel_rfl) (fun w hb _ => K.sub _ _ w (K.stay hg hb)),
    ob_load (b := (L2.b 11)) (off := 0) (cs := FC (((x.c0 + x.c1) * (y.c0 + y.c1)))) (by kernel_rfl) (fun _ => rfl) rfl rfl (fun _ => by kernel_rfl) (fun _ _ hs => (seen_at (k := 5) hs rfl).cells) Tryd.underlying24 rfl (sizeFC _),
    ob_load (b := (L1.b 10)) (off := 0) (cs := FC ((x.c0 * y.c0))) (by kernel_rfl) (fun _ => rfl) rfl rfl (fun _ => by kernel_rfl) (fun _ _ hs => (seen_at (k := 3) hs rfl).cells) Tryd.underlying24 rfl (sizeFC _),
    ob_call (vs := #[FV (((x.c0 + x.c1) * (y.c0 + y.c1))), FV ((x.c0 * y.c0))]) (by kernel_rfl) (by kernel_rfl) (fun _ => rfl) rfl rfl (fun _ => by kernel_rfl) (fun w hb _ => K.sub _ _ w (K.stay hg hb)),
    ob_load (b := (L1.b 11)) (off := 0) (cs := FC ((x.c1 * y.c1))) (by kernel_rfl) (fun _ => rfl) rfl rfl (fun _ => by kernel_rfl) (fun _ _ hs => (seen_at (k := 4) hs rfl).cells) Tryd.underlying24 rfl (sizeFC _),
    ob_call (vs := #[FV ((((x.c0 + x.c1) * (y.c0 + y.c1)) - (x.c0 * y.c0))), FV ((x.c1 * y.c1))]) (by kernel_rfl) (by kernel_rfl) (fun _ => rfl) rfl rfl (fun _ => by kernel_rfl) (fun w hb _ => K.sub _ _ w (K.stay hg hb)),
    ob_build (qs := #[(0, FV (((x.c0 * y.c0) - (x.c1 * y.c1)))), (1, FV (((((x.c0 + x.c1) * (y.c0 + y.c1)) - (x.c0 * y.c0)) - (x.c1 * y.c1))))]) (fun _ => rfl) rfl rfl (fun _ => by kernel_rfl) (buildP _ _),
    ob_store (old := PC 0) (fun _ => rfl) rfl rfl (fun _ => by kernel_rfl) (fun _ => by kernel_rfl) rfl (sizePC _) (PC_one _) (le_len (PC_len _) (PC_len _) (by decide)) (splice_all ((PC_len _).trans (PC_len _).symm)).symm,
    trivial⟩ (fun L3 w4 hp4 => ?_)
  refine k4 _ _ ?_
  refine wp_ret ?_
  exact bodyPost_ret (v := PV (⟨((x.c0 * y.c0) - (x.c1 * y.c1)), ((((x.c0 + x.c1) * (y.c0 + y.c1)) - (x.c0 * y.c0)) - (x.c1 * y.c1))⟩)) (res_c rfl (by kernel_rfl) (hp4.bound 2 rfl).2 Tryd.underlying26 rfl (sizePC _)) rfl ⟨congrArg (fun z => Ending.returned (PV z)) (F2.ext' (by simp) (by simp; grind)), hp4.bel⟩
set_option maxHeartbeats 4000000 in
theorem fp2Conj {G : World → Prop} (K : FpK G) (x : F2) (w : World) (hg : G w) : Calls Tryd.prog 20 #[PV x] w (Ret (PV x.conj) w) := by
  have hp0 := Heap.start w
  go_enter Tryd.func20, Tryd.ntmps20
  refine wp_seq_k (fun K1 k1 => ?_)
  refine goes (ks := [.alloc (PC x), .alloc (PC 0)]) (T := [0, 0]) (nt := 9) (nh := 0) (H := []) (A := fun L => [PV x, .pointer (some ⟨L.b 0, 0, none⟩), .pointer (some ⟨L.b 1, 0, none⟩), undef, undef, undef, undef, undef, undef]) (H' := fun L => [(L.b 0, PC x), (L.b 1, PC 0)]) (by kernel_rfl) rfl rfl rfl (fun L => by kernel_rfl) (fun L => by kernel_rfl) hp0 ⟨
    ob_box (v := PV x) (fun _ => rfl) rfl rfl (fun _ => by kernel_rfl) rfl,
    ob_alloc (v := PV 0) (fun _ => rfl) rfl rfl zeroP rfl,
    trivial⟩ (fun L0 w1 hp1 => ?_)
  refine k1 _ _ ?_
  refine wp_seq_k (fun K2 k2 => ?_)
  refine draws (by kernel_rfl) (ks := [.det (.pointer (some ⟨(L0.b 0), 0, none⟩)), .det (FV x.c0), .det (.pointer (some ⟨(L0.b 0), 6, none⟩)), .det (FV x.c1), .det (FV ((-x.c1))), .det (PV (⟨x.c0, (-x.c1)⟩)), .store (.base 1) 0 (PC (⟨x.c0, (-x.c1)⟩)) (PC (⟨x.c0, (-x.c1)⟩))]) (T := [0, 1, 0, 4, 12, 31, 63]) (nt := 9) (nh := 2) (H := [((L0.b 0), PC x), ((L0.b 1), PC 0)]) (A := fun L => [PV x, .pointer (some ⟨(L0.b 0), 0, none⟩), .pointer (some ⟨(L0.b 1), 0, none⟩), .pointer (some ⟨(L0.b 0), 0, none⟩), FV x.c0, .pointer (some ⟨(L0.b 0), 6, none⟩), FV x.c1, FV ((-x.c1)), PV (⟨x.c0, (-x.c1)⟩)]) (H' := fun L => [((L0.b 0), PC x), ((L0.b 1), PC (⟨x.c0, (-x.c1)⟩))]) (by kernel_rfl) rfl rfl rfl (fun L => by kernel_rfl) (fun L => by kernel_rfl) hp1 ⟨
    ob_index (b := (L0.b 0)) (off := 0) (k := 0) (sz := 6) (n := 2) (fun _ => rfl) rfl rfl (fun _ => by kernel_rfl) (fun _ => by kernel_rfl) Tryd.underlying26 sizeF (by decide) rfl,
    ob_load (b := (L0.b 0)) (off := 0) (cs := FC x.c0) (by kernel_rfl) (fun _ => rfl) rfl rfl (fun _ => by kernel_rfl) (fun _ _ hs => partF2_0 (seen_at (k := 0) hs rfl)) Tryd.underlying24 rfl (sizeFC _),
    ob_index (b := (L0.b 0)) (off := 0) (k := 1) (sz := 6) (n := 2) (fun _ => rfl) rfl rfl (fun _ => by kernel_rfl) (fun _ => by kernel_rfl) Tryd.underlying26 sizeF (by decide) rfl,
    ob_load (b := (L0.b 0)) (off := 6) (cs := FC x.c1) (by kernel_rfl) (fun _ => rfl) rfl rfl (fun _ => by kernel_rfl) (fun _ _ hs => partF2_1 (seen_at (k := 0) hs rfl)) Tryd.underlying24 rfl (sizeFC _),
    ob_call (vs := #[FV x.c1]) (by kernel_rfl) (by kernel_rfl) (fun _ => rfl) rfl rfl (fun _ => by kernel_rfl) (fun w hb _ => K.neg _ w (K.stay hg hb)),
    ob_build (qs := #[(0, FV x.c0), (1, FV ((-x.c1)))]) (fun _ => rfl) rfl rfl (fun _ => by kernel_rfl) (buildP _ _),
    ob_store (old := PC 0) (fun _ => rfl) rfl rfl (fun _ => by kernel_rfl) (fun _ => by kernel_rfl) rfl (sizePC _) (PC_one _) (le_len (PC_len _) (PC_len _) (by decide)) (splice_all ((PC_len _).trans (PC_len _).symm)).symm,
    trivial⟩ (fun L1 w2 hp2 => ?_)
  refine k2 _ _ ?_
  refine wp_ret ?_
  exact bodyPost_ret (v := PV (⟨x.c0, (-x.c1)⟩)) (res_c rfl (by kernel_rfl) (hp2.bound 1 rfl).2 Tryd.underlying26 rfl (sizePC _)) rfl ⟨rfl, hp2.bel⟩
set_option maxHeartbeats 4000000 in
theorem fp2norm {G : World → Prop} (K : FpK G) (x : F2) (w : World) (hg : G w) : Calls Tryd.prog 32 #[PV x] w (Ret (FV x.norm) w) := by
  have hp0 := Heap.start w
  go_enter Tryd.func32, Tryd.ntmps32
  refine wp_seq_k (fun K1 k1 => ?_)
  refine goes (ks := [.alloc (PC x), .alloc (FC 0)]) (T := [0, 0]) (nt := 14) (nh := 0) (H := []) (A := fun L => [PV x, .pointer (some ⟨L.b 0, 0, none⟩), .pointer (some ⟨L.b 1, 0, none⟩), undef, undef, undef, undef, undef, undef, undef, undef, undef, undef, undef]) (H' := fun L => [(L.b 0, PC x), (L.b 1, FC 0)]) (by kernel_rfl) rfl rfl rfl (fun L => by kernel_rfl) (fun L => by kernel_rfl) hp0 ⟨
    ob_box (v := PV x) (fun _ => rfl) rfl rfl (fun _ => by kernel_rfl) rfl,
    ob_alloc (v := FV 0) (fun _ => rfl) rfl rfl zeroF rfl,
    trivial⟩ (fun L0 w1 hp1 => ?_)
  refine k1 _ _ ?_
  refine wp_seq_k (fun K2 k2 => ?_)
  refine draws (by kernel_rfl) (ks := [.det (.pointer (some ⟨(L0.b 0), 0, none⟩)), .det (FV x.c0), .det (.pointer (some ⟨(L0.b 0), 0, none⟩)), .det (FV x.c0), .det (FV ((x.c0 * x.c0))), .det (.pointer (some ⟨(L0.b 0), 6, none⟩)), .det (FV x.c1), .det (.pointer (some ⟨(L0.b 0), 6, none⟩)), .det (FV x.c1), .det (FV ((x.c1 * x.c1))), .det (FV (((x.c0 * x.c0) + (x.c1 * x.c1)))), .store (.base 1) 0 (FC (((x.c0 * x.c0) + (x.c1 * x.c1)))) (FC (((x.c0 * x.c0) + (x.c1 * x.c1))))]) (T := [0, 1, 0, 4, 15, 0, 32, 0, 128, 511, 1023, 2047]) (nt := 14) (nh := 2) (H := [((L0.b 0), PC x), ((L0.b 1), FC 0)]) (A := fun L => [PV x, .pointer (some ⟨(L0.b 0), 0, none⟩), .pointer (some ⟨(L0.b 1), 0, none⟩), .pointer (some ⟨(L0.b 0), 0, none⟩), FV x.c0, .pointer (some ⟨(L0.b 0), 0, none⟩), FV x.c0, FV ((x.c0 * x.c0)), .pointer (some ⟨(L0.b 0), 6, none⟩), FV x.c1, .pointer (some ⟨(L0.b 0), 6, none⟩), FV x.c1, FV ((x.c1 * x.c1)), FV (((x.c0 * x.c0) + (x.c1 * x.c1)))]) (H' := fun L => [((L0.b 0), PC x), ((L0.b 1), FC (((x.c0 * x.c0) + (x.c1 * x.c1))))]) (by kernel_rfl) rfl rfl rfl (fun L => by kernel_rfl) (fun L => by kernel_rfl) hp1 ⟨
    ob_index (b := (L0.b 0)) (off := 0) (k := 0) (sz := 6) (n := 2) (fun _ => rfl) rfl rfl (fun _ => by kernel_rfl) (fun _ => by kernel_rfl) Tryd.underlying26 sizeF (by decide) rfl,
    ob_load (b := (L0.b 0)) (off := 0) (cs := FC x.c0) (by kernel_rfl) (fun _ => rfl) rfl rfl (fun _ => by kernel_rfl) (fun _ _ hs => partF2_0 (seen_at (k := 0) hs rfl)) Tryd.underlying24 rfl (sizeFC _),
    ob_index (b := (L0.b 0)) (off := 0) (k := 0) (sz := 6) (n := 2) (fun _ => rfl) rfl rfl (fun _ => by kernel_rfl) (fun _ => by kernel_rfl) Tryd.underlying26 sizeF (by decide) rfl,
    ob_load (b := (L0.b 0)) (off := 0) (cs := FC x.c0) (by kernel_rfl) (fun _ => rfl) rfl rfl (fun _ => by kernel_rfl) (fun _ _ hs => partF2_0 (seen_at (k := 0) hs rfl)) Tryd.underlying24 rfl (sizeFC _),
    ob_call (vs := #[FV x.c0, FV x.c0]) (by kernel_rfl) (by kernel_rfl) (fun _ => rfl) rfl rfl (fun _ => by kernel_rfl) (fun w hb _ => K.mul _ _ w (K.stay hg hb)),
    ob_index (b := (L0.b 0)) (off := 0) (k := 1) (sz := 6) (n := 2) (fun _ => rfl) rfl rfl (fun _ => by kernel_rfl) (fun _ => by kernel_rfl) Tryd.underlying26 sizeF (by decide) rfl,
    ob_load (b := (L0.b 0)) (off := 6) (cs := FC x.c1) (by kernel_rfl) (fun _ => rfl) rfl rfl (fun _ => by kernel_rfl) (fun _ _ hs => partF2_1 (seen_at (k := 0) hs rfl)) Tryd.underlying24 rfl (sizeFC _),
    ob_index (b := (L0.b 0)) (off := 0) (k := 1) (sz := 6) (n := 2) (fun _ => rfl) rfl rfl (fun _ => by kernel_rfl) (fun _ => by kernel_rfl) Tryd.underlying26 sizeF (by decide) rfl,
    ob_load (b := (L0.b 0)) (off := 6) (cs := FC x.c1) (by kernel_rfl) (fun _ => rfl) rfl rfl (fun _ => by kernel_rfl) (fun _ _ hs => partF2_1 (seen_at (k := 0) hs rfl)) Tryd.underlying24 rfl (sizeFC _),
    ob_call (vs := #[FV x.c1, FV x.c1]) (by kernel_rfl) (by kernel_rfl) (fun _ => rfl) rfl rfl (fun _ => by kernel_rfl) (fun w hb _ => K.mul _ _ w (K.stay hg hb)),
    ob_call (vs := #[FV ((x.c0 * x.c0)), FV ((x.c1 * x.c1))]) (by kernel_rfl) (by kernel_rfl) (fun _ => rfl) rfl rfl (fun _ => by kernel_rfl) (fun w hb _ => K.add _ _ w (K.stay hg hb)),
    ob_store (old := FC 0) (fun _ => rfl) rfl rfl (fun _ => by kernel_rfl) (fun _ => by kernel_rfl) rfl (sizeFC _) (FC_one _) (le_len (FC_len _) (FC_len _) (by decide)) (splice_all ((FC_len _).trans (FC_len _).symm)).symm,
    trivial⟩ (fun L1 w2 hp2 => ?_)
  refine k2 _ _ ?_
  refine wp_ret ?_
  exact bodyPost_ret (v := FV (((x.c0 * x.c0) + (x.c1 * x.c1)))) (res_c rfl (by kernel_rfl) (hp2.bound 1 rfl).2 Tryd.underlying24 rfl (sizeFC _)) rfl ⟨rfl, hp2.bel⟩
set_option maxHeartbeats 4000000 in
theorem fp2scale {G : World → Prop} (K : FpK G) (x : F2) (k : F) (w : World) (hg : G w) : Calls Tryd.prog 33 #[PV x, FV k] w (Ret (PV ⟨x.c0 * k, x.c1 * k⟩) w) := by
  have hp0 := Heap.start w
  go_enter Tryd.func33, Tryd.ntmps33
  refine wp_seq_k (fun K1 k1 => ?_)
  refine goes (ks := [.alloc (PC x), .alloc (FC k), .alloc (PC 0)]) (T := [0, 0, 0]) (nt := 14) (nh := 0) (H := []) (A := fun L => [PV x, FV k, .pointer (some ⟨L.b 0, 0, none⟩), .pointer (some ⟨L.b 1, 0, none⟩), .pointer (some ⟨L.b 2, 0, none⟩), undef, undef, undef, undef, undef, undef, undef, undef, undef]) (H' := fun L => [(L.b 0, PC x), (L.b 1, FC k), (L.b 2, PC 0)]) (by kernel_rfl) rfl rfl rfl (fun L => by kernel_rfl) (fun L => by kernel_rfl) hp0 ⟨
    ob_box (v := PV x) (fun _ => rfl) rfl rfl (fun _ => by kernel_rfl) rfl,
    ob_box (v := FV k) (fun _ => rfl) rfl rfl (fun _ => by kernel_rfl) rfl,
    ob_alloc (v := PV 0) (fun _ => rfl) rfl rfl zeroP rfl,
    trivial⟩ (fun L0 w1 hp1 => ?_)
  refine k1 _ _ ?_
  refine wp_seq_k (fun K2 k2 => ?_)
  refine draws (by kernel_rfl) (ks := [.det (.pointer (some ⟨(L0.b 0), 0, none⟩)), .det (FV x.c0), .det (FV k), .det (FV ((x.c0 * k))), .det (.pointer (some ⟨(L0.b 0), 6, none⟩)), .det (FV x.c1), .det (FV k), .det (FV ((x.c1 * k))), .det (PV (⟨(x.c0 * k), (x.c1 * k)⟩)), .store (.base 2) 0 (PC (⟨(x.c0 * k), (x.c1 * k)⟩)) (PC (⟨(x.c0 * k), (x.c1 * k)⟩))]) (T := [0, 1, 0, 7, 0, 16, 0, 127, 255, 511]) (nt := 14) (nh := 3) (H := [((L0.b 0), PC x), ((L0.b 1), FC k), ((L0.b 2), PC 0)]) (A := fun L => [PV x, FV k, .pointer (some ⟨(L0.b 0), 0, none⟩), .pointer (some ⟨(L0.b 1), 0, none⟩), .pointer (some ⟨(L0.b 2), 0, none⟩), .pointer (some ⟨(L0.b 0), 0, none⟩), FV x.c0, FV k, FV ((x.c0 * k)), .pointer (some ⟨(L0.b 0), 6, none⟩), FV x.c1, FV k, FV ((x.c1 * k)), PV (⟨(x.c0 * k), (x.c1 * k)⟩)]) (H' := fun L => [((L0.b 0), PC x), ((L0.b 1), FC k), ((L0.b 2), PC (⟨(x.c0 * k), (x.c1 * k)⟩))]) (by kernel_rfl) rfl rfl rfl (fun L => by kernel_rfl) (fun L => by kernel_rfl) hp1 ⟨
    ob_index (b := (L0.b 0)) (off := 0) (k := 0) (sz := 6) (n := 2) (fun _ => rfl) rfl rfl (fun _ => by kernel_rfl) (fun _ => by kernel_rfl) Tryd.underlying26 sizeF (by decide) rfl,
    ob_load (b := (L0.b 0)) (off := 0) (cs := FC x.c0) (by kernel_rfl) (fun _ => rfl) rfl rfl (fun _ => by kernel_rfl) (fun _ _ hs => partF2_0 (seen_at (k := 0) hs rfl)) Tryd.underlying24 rfl (sizeFC _),
    ob_load (b := (L0.b 1)) (off := 0) (cs := FC k) (by kernel_rfl) (fun _ => rfl) rfl rfl (fun _ => by kernel_rfl) (fun _ _ hs => (seen_at (k := 1) hs rfl).cells) Tryd.underlying24 rfl (sizeFC _),
    ob_call (vs := #[FV x.c0, FV k]) (by kernel_rfl) (by kernel_rfl) (fun _ => rfl) rfl rfl (fun _ => by kernel_rfl) (fun w hb _ => K.mul _ _ w (K.stay hg hb)),
    ob_index (b := (L0.b 0)) (off := 0) (k := 1) (sz := 6) (n := 2) (fun _ => rfl) rfl rfl (fun _ => by kernel_rfl) (fun _ => by kernel_rfl) Tryd.underlying26 sizeF (by decide) rfl,
    ob_load (b := (L0.b 0)) (off := 6) (cs := FC x.c1) (by kernel_rfl) (fun _ => rfl) rfl rfl (fun _ => by kernel_rfl) (fun _ _ hs => partF2_1 (seen_at (k := 0) hs rfl)) Tryd.underlying24 rfl (sizeFC _),
    ob_load (b := (L0.b 1)) (off := 0) (cs := FC k) (by kernel_rfl) (fun _ => rfl) rfl rfl (fun _ => by kernel_rfl) (fun _ _ hs => (seen_at (k := 1) hs rfl).cells) Tryd.underlying24 rfl (sizeFC _),
    ob_call (vs := #[FV x.c1, FV k]) (by kernel_rfl) (by kernel_rfl) (fun _ => rfl) rfl rfl (fun _ => by kernel_rfl) (fun w hb _ => K.mul _ _ w (K.stay hg hb)),
    ob_build (qs := #[(0, FV ((x.c0 * k))), (1, FV ((x.c1 * k)))]) (fun _ => rfl) rfl rfl (fun _ => by kernel_rfl) (buildP _ _),
    ob_store (old := PC 0) (fun _ => rfl) rfl rfl (fun _ => by kernel_rfl) (fun _ => by kernel_rfl) rfl (sizePC _) (PC_one _) (le_len (PC_len _) (PC_len _) (by decide)) (splice_all ((PC_len _).trans (PC_len _).symm)).symm,
    trivial⟩ (fun L1 w2 hp2 => ?_)
  refine k2 _ _ ?_
  refine wp_ret ?_
  exact bodyPost_ret (v := PV (⟨(x.c0 * k), (x.c1 * k)⟩)) (res_c rfl (by kernel_rfl) (hp2.bound 2 rfl).2 Tryd.underlying26 rfl (sizePC _)) rfl ⟨rfl, hp2.bel⟩
set_option maxHeartbeats 4000000 in
theorem fp2Inv {G : World → Prop} (K : FpK G) (x : F2) (w : World) (hg : G w) (hn : x.norm ≠ 0) : Calls Tryd.prog 10 #[PV x] w (Ret (.tuple #[PV x.inv, .int .i64 0]) w) := by
  have hp0 := Heap.start w
  go_enter Tryd.func10, Tryd.ntmps10
  refine wp_seq_k (fun K1 k1 => ?_)
  refine goes (ks := [.alloc (PC x), .alloc (PC 0), .det (.int .i64 0)]) (T := [0, 0, 0]) (nt := 20) (nh := 0) (H := []) (A := fun L => [PV x, .pointer (some ⟨L.b 0, 0, none⟩), .pointer (some ⟨L.b 1, 0, none⟩), .int .i64 0, undef, undef, undef, undef, undef, undef, undef, undef, undef, undef, undef, undef, undef, undef, undef, undef]) (H' := fun L => [(L.b 0, PC x), (L.b 1, PC 0)]) (by kernel_rfl) rfl rfl rfl (fun L => by kernel_rfl) (fun L => by kernel_rfl) hp0 ⟨
    ob_box (v := PV x) (fun _ => rfl) rfl rfl (fun _ => by kernel_rfl) rfl,
    ob_alloc (v := PV 0) (fun _ => rfl) rfl rfl zeroP rfl,
    ob_assign (fun _ => rfl) rfl rfl (fun _ => by kernel_rfl),
    trivial⟩ (fun L0 w1 hp1 => ?_)
  refine k1 _ _ ?_
  refine wp_seq_k (fun K2 k2 => ?_)
  refine goes (ks := [.det (PV x), .det (FV x.norm), .det (.tuple #[FV ((finv x.norm)), .int .i64 0]), .det (.tuple #[FV ((finv x.norm)), .int .i64 0]), .det (FV ((finv x.norm))), .det (.int .i64 0), .alloc (FC 0), .store (.new 6) 0 (FC ((finv x.norm))) (FC ((finv x.norm))), .det (.int .i64 0)]) (T := [0, 1, 3, 7, 15, 15, 0, 95, 255]) (nt := 20) (nh := 2) (H := [((L0.b 0), PC x), ((L0.b 1), PC 0)]) (A := fun L => [PV x, .pointer (some ⟨(L0.b 0), 0, none⟩), .pointer (some ⟨(L0.b 1), 0, none⟩), .int .i64 0, .pointer (some ⟨L.b 6, 0, none⟩), .int .i64 0, .tuple #[FV ((finv x.norm)), .int .i64 0], PV x, FV x.norm, .tuple #[FV ((finv x.norm)), .int .i64 0], FV ((finv x.norm)), .int .i64 0, undef, undef, undef, undef, undef, undef, undef, undef]) (H' := fun L => [((L0.b 0), PC x), ((L0.b 1), PC 0), (L.b 6, FC ((finv x.norm)))]) (by kernel_rfl) rfl rfl rfl (fun L => by kernel_rfl) (fun L => by kernel_rfl) hp1 ⟨
    ob_load (b := (L0.b 0)) (off := 0) (cs := PC x) (by kernel_rfl) (fun _ => rfl) rfl rfl (fun _ => by kernel_rfl) (fun _ _ hs => (seen_at (k := 0) hs rfl).cells) Tryd.underlying26 rfl (sizePC _),
    ob_call (vs := #[PV x]) (by kernel_rfl) (by kernel_rfl) (fun _ => rfl) rfl rfl (fun _ => by kernel_rfl) (fun w hb _ => fp2norm K _ w (K.stay hg hb)),
    ob_call (vs := #[FV x.norm]) (by kernel_rfl) (by kernel_rfl) (fun _ => rfl) rfl rfl (fun _ => by kernel_rfl) (fun w hb _ => K.inv _ w (K.stay hg hb) hn),
    ob_move (fun _ => rfl) rfl rfl (fun _ => by kernel_rfl),
    ob_extract (vs := #[FV ((finv x.norm)), .int .i64 0]) (fun _ => rfl) rfl rfl (fun _ => by kernel_rfl) rfl,
    ob_extract (vs := #[FV ((finv x.norm)), .int .i64 0]) (fun _ => rfl) rfl rfl (fun _ => by kernel_rfl) rfl,
    ob_alloc (v := FV 0) (fun _ => rfl) rfl rfl zeroF rfl,
    ob_store (old := FC 0) (fun _ => rfl) rfl rfl (fun _ => by kernel_rfl) (fun _ => by kernel_rfl) rfl (sizeFC _) (FC_one _) (le_len (FC_len _) (FC_len _) (by decide)) (splice_all ((FC_len _).trans (FC_len _).symm)).symm,
    ob_assign (fun _ => rfl) rfl rfl (fun _ => by kernel_rfl),
    trivial⟩ (fun L1 w2 hp2 => ?_)
  refine k2 _ _ ?_
  refine wp_seq_k (fun K3 k3 => ?_)
  refine wp_seq_k (fun K4 k4 => ?_)
  refine goes (ks := [.det (.int .i64 0), .det (.bool false)]) (T := [0, 1]) (nt := 20) (nh := 3) (H := [((L0.b 0), PC x), ((L0.b 1), PC 0), ((L1.b 6), FC ((finv x.norm)))]) (A := fun L => [PV x, .pointer (some ⟨(L0.b 0), 0, none⟩), .pointer (some ⟨(L0.b 1), 0, none⟩), .int .i64 0, .pointer (some ⟨(L1.b 6), 0, none⟩), .int .i64 0, .tuple #[FV ((finv x.norm)), .int .i64 0], PV x, FV x.norm, .tuple #[FV ((finv x.norm)), .int .i64 0], FV ((finv x.norm)), .int .i64 0, .int .i64 0, .bool false, undef, undef, undef, undef, undef, undef]) (H' := fun L => [((L0.b 0), PC x), ((L0.b 1), PC 0), ((L1.b 6), FC ((finv x.norm)))]) (by kernel_rfl) rfl rfl rfl (fun L => by kernel_rfl) (fun L => by kernel_rfl) hp2 ⟨
    ob_move (fun _ => rfl) rfl rfl (fun _ => by kernel_rfl),
    ob_ne (u := .int .i64 0) (v := .int .i64 0) (fun _ => rfl) rfl rfl (fun _ => by kernel_rfl) (fun _ => by kernel_rfl) (fun w => guardI _ _ _ _ _ _ _ _ w) (fun w => (neqI _ _ _ _ w).trans rfl),
    trivial⟩ (fun L2 w3 hp3 => ?_)
  refine k4 _ _ ?_
  refine wp_cond_false (by kernel_rfl) ?_
  refine skips ?_
  refine k3 _ _ ?_
  refine wp_seq_k (fun K5 k5 => ?_)
  refine draws (by kernel_rfl) (ks := [.det (PV x), .det (PV x.conj), .det (FV ((finv x.norm))), .det (PV (⟨x.conj.c0 * (finv x.norm), x.conj.c1 * (finv x.norm)⟩)), .store (.base 1) 0 (PC (⟨x.conj.c0 * (finv x.norm), x.conj.c1 * (finv x.norm)⟩)) (PC (⟨x.conj.c0 * (finv x.norm), x.conj.c1 * (finv x.norm)⟩)), .det (.int .i64 0)]) (T := [0, 1, 0, 7, 15, 31]) (nt := 20) (nh := 3) (H := [((L0.b 0), PC x), ((L0.b 1), PC 0), ((L1.b 6), FC ((finv x.norm)))]) (A := fun L => [PV x, .pointer (some ⟨(L0.b 0), 0, none⟩), .pointer (some ⟨(L0.b 1), 0, none⟩), .int .i64 0, .pointer (some ⟨(L1.b 6), 0, none⟩), .int .i64 0, .tuple #[FV ((finv x.norm)), .int .i64 0], PV x, FV x.norm, .tuple #[FV ((finv x.norm)), .int .i64 0], FV ((finv x.norm)), .int .i64 0, .int .i64 0, .bool false, undef, undef, PV x, PV x.conj, FV ((finv x.norm)), PV (⟨x.conj.c0 * (finv x.norm), x.conj.c1 * (finv x.norm)⟩)]) (H' := fun L => [((L0.b 0), PC x), ((L0.b 1), PC (⟨x.conj.c0 * (finv x.norm), x.conj.c1 * (finv x.norm)⟩)), ((L1.b 6), FC ((finv x.norm)))]) (by kernel_rfl) rfl rfl rfl (fun L => by kernel_rfl) (fun L => by kernel_rfl) hp3 ⟨
    ob_load (b := (L0.b 0)) (off := 0) (cs := PC x) (by kernel_rfl) (fun _ => rfl) rfl rfl (fun _ => by kernel_rfl) (fun _ _ hs => (seen_at (k := 0) hs rfl).cells) Tryd.underlying26 rfl (sizePC _),
    ob_call (vs := #[PV x]) (by kernel_rfl) (by kernel_rfl) (fun _ => rfl) rfl rfl (fun _ => by kernel_rfl) (fun w hb _ => fp2Conj K _ w (K.stay hg hb)),
    ob_load (b := (L1.b 6)) (off := 0) (cs := FC ((finv x.norm))) (by kernel_rfl) (fun _ => rfl) rfl rfl (fun _ => by kernel_rfl) (fun _ _ hs => (seen_at (k := 2) hs rfl).cells) Tryd.underlying24 rfl (sizeFC _),
    ob_call (vs := #[PV x.conj, FV ((finv x.norm))]) (by kernel_rfl) (by kernel_rfl) (fun _ => rfl) rfl rfl (fun _ => by kernel_rfl) (fun w hb _ => fp2scale K _ _ w (K.stay hg hb)),
    ob_store (old := PC 0) (fun _ => rfl) rfl rfl (fun _ => by kernel_rfl) (fun _ => by kernel_rfl) rfl (sizePC _) (PC_one _) (le_len (PC_len _) (PC_len _) (by decide)) (splice_all ((PC_len _).trans (PC_len _).symm)).symm,
    ob_assign (fun _ => rfl) rfl rfl (fun _ => by kernel_rfl),
    trivial⟩ (fun L3 w4 hp4 => ?_)
  refine k5 _ _ ?_
  refine wp_ret ?_
  exact bodyPost_ret (v := .tuple #[PV (⟨x.conj.c0 * (finv x.norm), x.conj.c1 * (finv x.norm)⟩), .int .i64 0]) (res_ct rfl (by kernel_rfl) (by kernel_rfl) (hp4.bound 1 rfl).2 Tryd.underlying26 rfl (sizePC _)) rfl ⟨rfl, hp4.bel⟩
set_option maxHeartbeats 4000000 in
theorem fp2Inv0 {G : World → Prop} (K : FpK G) (x : F2) (w : World) (hg : G w) (hn : x.norm = 0) : Calls Tryd.prog 10 #[PV x] w (Ret (.tuple #[PV 0, .int .i64 7]) w) := by
  have hp0 := Heap.start w
  go_enter Tryd.func10, Tryd.ntmps10
  refine wp_seq_k (fun K1 k1 => ?_)
  refine goes (ks := [.alloc (PC x), .alloc (PC 0), .det (.int .i64 0)]) (T := [0, 0, 0]) (nt := 20) (nh := 0) (H := []) (A := fun L => [PV x, .pointer (some ⟨L.b 0, 0, none⟩), .pointer (some ⟨L.b 1, 0, none⟩), .int .i64 0, undef, undef, undef, undef, undef, undef, undef, undef, undef, undef, undef, undef, undef, undef, undef, undef]) (H' := fun L => [(L.b 0, PC x), (L.b 1, PC 0)]) (by kernel_rfl) rfl rfl rfl (fun L => by kernel_rfl) (fun L => by kernel_rfl) hp0 ⟨
    ob_box (v := PV x) (fun _ => rfl) rfl rfl (fun _ => by kernel_rfl) rfl,
    ob_alloc (v := PV 0) (fun _ => rfl) rfl rfl zeroP rfl,
    ob_assign (fun _ => rfl) rfl rfl (fun _ => by kernel_rfl),
    trivial⟩ (fun L0 w1 hp1 => ?_)
  refine k1 _ _ ?_
  refine wp_seq_k (fun K2 k2 => ?_)
  refine goes (ks := [.det (PV x), .det (FV 0), .det (.tuple #[FV 0, .int .i64 7]), .det (.tuple #[FV 0, .int .i64 7]), .det (FV 0), .det (.int .i64 7), .alloc (FC 0), .store (.new 6) 0 (FC 0) (FC 0), .det (.int .i64 7)]) (T := [0, 1, 3, 7, 15, 15, 0, 95, 255]) (nt := 20) (nh := 2) (H := [((L0.b 0), PC x), ((L0.b 1), PC 0)]) (A := fun L => [PV x, .pointer (some ⟨(L0.b 0), 0, none⟩), .pointer (some ⟨(L0.b 1), 0, none⟩), .int .i64 0, .pointer (some ⟨L.b 6, 0, none⟩), .int .i64 7, .tuple #[FV 0, .int .i64 7], PV x, FV 0, .tuple #[FV 0, .int .i64 7], FV 0, .int .i64 7, undef, undef, undef, undef, undef, undef, undef, undef]) (H' := fun L => [((L0.b 0), PC x), ((L0.b 1), PC 0), (L.b 6, FC 0)]) (by kernel_rfl) rfl rfl rfl (fun L => by kernel_rfl) (fun L => by kernel_rfl) hp1 ⟨
    ob_load (b := (L0.b 0)) (off := 0) (cs := PC x) (by kernel_rfl) (fun _ => rfl) rfl rfl (fun _ => by kernel_rfl) (fun _ _ hs => (seen_at (k := 0) hs rfl).cells) Tryd.underlying26 rfl (sizePC _),
    ob_call (vs := #[PV x]) (by kernel_rfl) (by kernel_rfl) (fun _ => rfl) rfl rfl (fun _ => by kernel_rfl) (fun w hb _ => by have h := fp2norm K x w (K.stay hg hb); rw [hn] at h; exact h),
    ob_call (vs := #[FV 0]) (by kernel_rfl) (by kernel_rfl) (fun _ => rfl) rfl rfl (fun _ => by kernel_rfl) (fun w hb _ => K.inv0 w (K.stay hg hb)),
    ob_move (fun _ => rfl) rfl rfl (fun _ => by kernel_rfl),
    ob_extract (vs := #[FV 0, .int .i64 7]) (fun _ => rfl) rfl rfl (fun _ => by kernel_rfl) rfl,
    ob_extract (vs := #[FV 0, .int .i64 7]) (fun _ => rfl) rfl rfl (fun _ => by kernel_rfl) rfl,
    ob_alloc (v := FV 0) (fun _ => rfl) rfl rfl zeroF rfl,
    ob_store (old := FC 0) (fun _ => rfl) rfl rfl (fun _ => by kernel_rfl) (fun _ => by kernel_rfl) rfl (sizeFC _) (FC_one _) (le_len (FC_len _) (FC_len _) (by decide)) (splice_all ((FC_len _).trans (FC_len _).symm)).symm,
    ob_assign (fun _ => rfl) rfl rfl (fun _ => by kernel_rfl),
    trivial⟩ (fun L1 w2 hp2 => ?_)
  refine k2 _ _ ?_
  refine wp_seq_k (fun K3 k3 => ?_)
  refine wp_seq_k (fun K4 k4 => ?_)
  refine goes (ks := [.det (.int .i64 7), .det (.bool true)]) (T := [0, 1]) (nt := 20) (nh := 3) (H := [((L0.b 0), PC x), ((L0.b 1), PC 0), ((L1.b 6), FC 0)]) (A := fun L => [PV x, .pointer (some ⟨(L0.b 0), 0, none⟩), .pointer (some ⟨(L0.b 1), 0, none⟩), .int .i64 0, .pointer (some ⟨(L1.b 6), 0, none⟩), .int .i64 7, .tuple #[FV 0, .int .i64 7], PV x, FV 0, .tuple #[FV 0, .int .i64 7], FV 0, .int .i64 7, .int .i64 7, .bool true, undef, undef, undef, undef, undef, undef]) (H' := fun L => [((L0.b 0), PC x), ((L0.b 1), PC 0), ((L1.b 6), FC 0)]) (by kernel_rfl) rfl rfl rfl (fun L => by kernel_rfl) (fun L => by kernel_rfl) hp2 ⟨
    ob_move (fun _ => rfl) rfl rfl (fun _ => by kernel_rfl),
    ob_ne (u := .int .i64 7) (v := .int .i64 0) (fun _ => rfl) rfl rfl (fun _ => by kernel_rfl) (fun _ => by kernel_rfl) (fun w => guardI _ _ _ _ _ _ _ _ w) (fun w => (neqI _ _ _ _ w).trans rfl),
    trivial⟩ (fun L2 w3 hp3 => ?_)
  refine k4 _ _ ?_
  refine wp_cond_true (by kernel_rfl) ?_
  refine wp_seq_k (fun K5 k5 => ?_)
  refine goes (ks := [.det (PV 0), .det (.int .i64 7), .store (.base 1) 0 (PC 0) (PC 0), .det (.int .i64 7)]) (T := [0, 0, 1, 7]) (nt := 20) (nh := 3) (H := [((L0.b 0), PC x), ((L0.b 1), PC 0), ((L1.b 6), FC 0)]) (A := fun L => [PV x, .pointer (some ⟨(L0.b 0), 0, none⟩), .pointer (some ⟨(L0.b 1), 0, none⟩), .int .i64 7, .pointer (some ⟨(L1.b 6), 0, none⟩), .int .i64 7, .tuple #[FV 0, .int .i64 7], PV x, FV 0, .tuple #[FV 0, .int .i64 7], FV 0, .int .i64 7, .int .i64 7, .bool true, PV 0, .int .i64 7, undef, undef, undef, undef]) (H' := fun L => [((L0.b 0), PC x), ((L0.b 1), PC 0), ((L1.b 6), FC 0)]) (by kernel_rfl) rfl rfl rfl (fun L => by kernel_rfl) (fun L => by kernel_rfl) hp3 ⟨
    ob_build (qs := #[]) (fun _ => rfl) rfl rfl (fun _ => by kernel_rfl) buildP0,
    ob_move (fun _ => rfl) rfl rfl (fun _ => by kernel_rfl),
    ob_store (old := PC 0) (fun _ => rfl) rfl rfl (fun _ => by kernel_rfl) (fun _ => by kernel_rfl) rfl (sizePC _) (PC_one _) (le_len (PC_len _) (PC_len _) (by decide)) (splice_all ((PC_len _).trans (PC_len _).symm)).symm,
    ob_assign (fun _ => rfl) rfl rfl (fun _ => by kernel_rfl),
    trivial⟩ (fun L3 w4 hp4 => ?_)
  refine k5 _ _ ?_
  refine wp_ret ?_
  exact bodyPost_ret (v := .tuple #[PV 0, .int .i64 7]) (res_ct rfl (by kernel_rfl) (by kernel_rfl) (hp4.bound 1 rfl).2 Tryd.underlying26 rfl (sizePC _)) rfl ⟨rfl, hp4.bel⟩
set_option maxHeartbeats 4000000 in
theorem fp2Great1 {G : World → Prop} (K : FpK G) (x : F2) (w : World) (hg : G w) (h1 : x.c1 = 0) : Calls Tryd.prog 22 #[PV x] w (Ret (.bool x.great) w) := by
  have hp0 := Heap.start w
  go_enter Tryd.func22, Tryd.ntmps22
  refine wp_seq_k (fun K1 k1 => ?_)
  refine goes (ks := [.alloc (PC x), .det (.bool false)]) (T := [0, 0]) (nt := 13) (nh := 0) (H := []) (A := fun L => [PV x, .pointer (some ⟨L.b 0, 0, none⟩), .bool false, undef, undef, undef, undef, undef, undef, undef, undef, undef, undef]) (H' := fun L => [(L.b 0, PC x)]) (by kernel_rfl) rfl rfl rfl (fun L => by kernel_rfl) (fun L => by kernel_rfl) hp0 ⟨
    ob_box (v := PV x) (fun _ => rfl) rfl rfl (fun _ => by kernel_rfl) rfl,
    ob_assign (fun _ => rfl) rfl rfl (fun _ => by kernel_rfl),
    trivial⟩ (fun L0 w1 hp1 => ?_)
  refine k1 _ _ ?_
  refine wp_seq_k (fun K2 k2 => ?_)
  refine wp_seq_k (fun K3 k3 => ?_)
  refine goes (ks := [.det (.pointer (some ⟨(L0.b 0), 6, none⟩)), .det (FV x.c1), .det (FV 0), .det (.bool true)]) (T := [0, 1, 0, 7]) (nt := 13) (nh := 1) (H := [((L0.b 0), PC x)]) (A := fun L => [PV x, .pointer (some ⟨(L0.b 0), 0, none⟩), .bool false, .pointer (some ⟨(L0.b 0), 6, none⟩), FV x.c1, FV 0, .bool true, undef, undef, undef, undef, undef, undef]) (H' := fun L => [((L0.b 0), PC x)]) (by kernel_rfl) rfl rfl rfl (fun L => by kernel_rfl) (fun L => by kernel_rfl) hp1 ⟨
    ob_index (b := (L0.b 0)) (off := 0) (k := 1) (sz := 6) (n := 2) (fun _ => rfl) rfl rfl (fun _ => by kernel_rfl) (fun _ => by kernel_rfl) Tryd.underlying26 sizeF (by decide) rfl,
    ob_load (b := (L0.b 0)) (off := 6) (cs := FC x.c1) (by kernel_rfl) (fun _ => rfl) rfl rfl (fun _ => by kernel_rfl) (fun _ _ hs => partF2_1 (seen_at (k := 0) hs rfl)) Tryd.underlying24 rfl (sizeFC _),
    ob_build (qs := #[]) (fun _ => rfl) rfl rfl (fun _ => by kernel_rfl) buildF0,
    ob_eq (u := FV x.c1) (v := FV 0) (fun _ => rfl) rfl rfl (fun _ => by kernel_rfl) (fun _ => by kernel_rfl) (fun w => guardF _ _ _ _ _ w) (fun w => (eqlF _ _ w).trans (by rw [decide_eq_true (h1)]; try rfl)),
    trivial⟩ (fun L1 w2 hp2 => ?_)
  refine k3 _ _ ?_
  refine wp_cond_true (by kernel_rfl) ?_
  refine wp_seq_k (fun K4 k4 => ?_)
  refine goes (ks := [.det (.pointer (some ⟨(L0.b 0), 0, none⟩)), .det (FV x.c0), .det (.bool (great x.c0)), .det (.bool (great x.c0))]) (T := [0, 1, 3, 7]) (nt := 13) (nh := 1) (H := [((L0.b 0), PC x)]) (A := fun L => [PV x, .pointer (some ⟨(L0.b 0), 0, none⟩), .bool (great x.c0), .pointer (some ⟨(L0.b 0), 6, none⟩), FV x.c1, FV 0, .bool true, .pointer (some ⟨(L0.b 0), 0, none⟩), FV x.c0, .bool (great x.c0), undef, undef, undef]) (H' := fun L => [((L0.b 0), PC x)]) (by kernel_rfl) rfl rfl rfl (fun L => by kernel_rfl) (fun L => by kernel_rfl) hp2 ⟨
    ob_index (b := (L0.b 0)) (off := 0) (k := 0) (sz := 6) (n := 2) (fun _ => rfl) rfl rfl (fun _ => by kernel_rfl) (fun _ => by kernel_rfl) Tryd.underlying26 sizeF (by decide) rfl,
    ob_load (b := (L0.b 0)) (off := 0) (cs := FC x.c0) (by kernel_rfl) (fun _ => rfl) rfl rfl (fun _ => by kernel_rfl) (fun _ _ hs => partF2_0 (seen_at (k := 0) hs rfl)) Tryd.underlying24 rfl (sizeFC _),
    ob_call (vs := #[FV x.c0]) (by kernel_rfl) (by kernel_rfl) (fun _ => rfl) rfl rfl (fun _ => by kernel_rfl) (fun w hb _ => K.great _ w (K.stay hg hb)),
    ob_assign (fun _ => rfl) rfl rfl (fun _ => by kernel_rfl),
    trivial⟩ (fun L2 w3 hp3 => ?_)
  refine k4 _ _ ?_
  refine wp_ret ?_
  exact bodyPost_ret (v := .bool (great x.c0)) (res_t rfl (by kernel_rfl) _) rfl ⟨congrArg (fun b => Ending.returned (.bool b)) (if_pos h1).symm, hp3.bel⟩
set_option maxHeartbeats 4000000 in
theorem fp2Great2 {G : World → Prop} (K : FpK G) (x : F2) (w : World) (hg : G w) (h1 : x.c1 ≠ 0) : Calls Tryd.prog 22 #[PV x] w (Ret (.bool x.great) w) := by
  have hp0 := Heap.start w
  go_enter Tryd.func22, Tryd.ntmps22
  refine wp_seq_k (fun K1 k1 => ?_)
  refine goes (ks := [.alloc (PC x), .det (.bool false)]) (T := [0, 0]) (nt := 13) (nh := 0) (H := []) (A := fun L => [PV x, .pointer (some ⟨L.b 0, 0, none⟩), .bool false, undef, undef, undef, undef, undef, undef, undef, undef, undef, undef]) (H' := fun L => [(L.b 0, PC x)]) (by kernel_rfl) rfl rfl rfl (fun L => by kernel_rfl) (fun L => by kernel_rfl) hp0 ⟨
    ob_box (v := PV x) (fun _ => rfl) rfl rfl (fun _ => by kernel_rfl) rfl,
    ob_assign (fun _ => rfl) rfl rfl (fun _ => by kernel_rfl),
    trivial⟩ (fun L0 w1 hp1 => ?_)
  refine k1 _ _ ?_
  refine wp_seq_k (fun K2 k2 => ?_)
  refine wp_seq_k (fun K3 k3 => ?_)
  refine goes (ks := [.det (.pointer (some ⟨(L0.b 0), 6, none⟩)), .det (FV x.c1), .det (FV 0), .det (.bool false)]) (T := [0, 1, 0, 7]) (nt := 13) (nh := 1) (H := [((L0.b 0), PC x)]) (A := fun L => [PV x, .pointer (some ⟨(L0.b 0), 0, none⟩), .bool false, .pointer (some ⟨(L0.b 0), 6, none⟩), FV x.c1, FV 0, .bool false, undef, undef, undef, undef, undef, undef]) (H' := fun L => [((L0.b 0), PC x)]) (by kernel_rfl) rfl rfl rfl (fun L => by kernel_rfl) (fun L => by kernel_rfl) hp1 ⟨
    ob_index (b := (L0.b 0)) (off := 0) (k := 1) (sz := 6) (n := 2) (fun _ => rfl) rfl rfl (fun _ => by kernel_rfl) (fun _ => by kernel_rfl) Tryd.underlying26 sizeF (by decide) rfl,
    ob_load (b := (L0.b 0)) (off := 6) (cs := FC x.c1) (by kernel_rfl) (fun _ => rfl) rfl rfl (fun _ => by kernel_rfl) (fun _ _ hs => partF2_1 (seen_at (k := 0) hs rfl)) Tryd.underlying24 rfl (sizeFC _),
    ob_build (qs := #[]) (fun _ => rfl) rfl rfl (fun _ => by kernel_rfl) buildF0,
    ob_eq (u := FV x.c1) (v := FV 0) (fun _ => rfl) rfl rfl (fun _ => by kernel_rfl) (fun _ => by kernel_rfl) (fun w => guardF _ _ _ _ _ w) (fun w => (eqlF _ _ w).trans (by rw [decide_eq_false (h1)]; try rfl)),
    trivial⟩ (fun L1 w2 hp2 => ?_)
  refine k3 _ _ ?_
  refine wp_cond_false (by kernel_rfl) ?_
  refine skips ?_
  refine k2 _ _ ?_
  refine wp_seq_k (fun K4 k4 => ?_)
  refine goes (ks := [.det (.pointer (some ⟨(L0.b 0), 6, none⟩)), .det (FV x.c1), .det (.bool (great x.c1)), .det (.bool (great x.c1))]) (T := [0, 1, 3, 7]) (nt := 13) (nh := 1) (H := [((L0.b 0), PC x)]) (A := fun L => [PV x, .pointer (some ⟨(L0.b 0), 0, none⟩), .bool (great x.c1), .pointer (some ⟨(L0.b 0), 6, none⟩), FV x.c1, FV 0, .bool false, undef, undef, undef, .pointer (some ⟨(L0.b 0), 6, none⟩), FV x.c1, .bool (great x.c1)]) (H' := fun L => [((L0.b 0), PC x)]) (by kernel_rfl) rfl rfl rfl (fun L => by kernel_rfl) (fun L => by kernel_rfl) hp2 ⟨
    ob_index (b := (L0.b 0)) (off := 0) (k := 1) (sz := 6) (n := 2) (fun _ => rfl) rfl rfl (fun _ => by kernel_rfl) (fun _ => by kernel_rfl) Tryd.underlying26 sizeF (by decide) rfl,
    ob_load (b := (L0.b 0)) (off := 6) (cs := FC x.c1) (by kernel_rfl) (fun _ => rfl) rfl rfl (fun _ => by kernel_rfl) (fun _ _ hs => partF2_1 (seen_at (k := 0) hs rfl)) Tryd.underlying24 rfl (sizeFC _),
    ob_call (vs := #[FV x.c1]) (by kernel_rfl) (by kernel_rfl) (fun _ => rfl) rfl rfl (fun _ => by kernel_rfl) (fun w hb _ => K.great _ w (K.stay hg hb)),
    ob_assign (fun _ => rfl) rfl rfl (fun _ => by kernel_rfl),
    trivial⟩ (fun L2 w3 hp3 => ?_)
  refine k4 _ _ ?_
  refine wp_ret ?_
  exact bodyPost_ret (v := .bool (great x.c1)) (res_t rfl (by kernel_rfl) _) rfl ⟨congrArg (fun b => Ending.returned (.bool b)) (if_neg h1).symm, hp3.bel⟩
theorem fp2Great {G : World → Prop} (K : FpK G) (x : F2) (w : World) (hg : G w) : Calls Tryd.prog 22 #[PV x] w (Ret (.bool x.great) w) := by
  by_cases h : x.c1 = 0
  · exact fp2Great1 K x w hg h
  · exact fp2Great2 K x w hg h
set_option maxHeartbeats 4000000 in
theorem fp2May {G : World → Prop} (K : FpK G) (f g : Nat → Int) (w : World) (hg : G w) (rf : Rg f 6) (rg : Rg g 6) (lf : val f 6 < RI) (lg : val g 6 < RI) : Calls Tryd.prog 9 #[QV2 f g] w (Ret (.bool true) w) := by
  have hp0 := Heap.start w
  go_enter Tryd.func9, Tryd.ntmps9
  refine wp_seq_k (fun K1 k1 => ?_)
  refine goes (ks := [.alloc (QC2 f g), .det (.bool false)]) (T := [0, 0]) (nt := 11) (nh := 0) (H := []) (A := fun L => [QV2 f g, .pointer (some ⟨L.b 0, 0, none⟩), .bool false, undef, undef, undef, undef, undef, undef, undef, undef]) (H' := fun L => [(L.b 0, QC2 f g)]) (by kernel_rfl) rfl rfl rfl (fun L => by kernel_rfl) (fun L => by kernel_rfl) hp0 ⟨
    ob_box (v := QV2 f g) (fun _ => rfl) rfl rfl (fun _ => by kernel_rfl) rfl,
    ob_assign (fun _ => rfl) rfl rfl (fun _ => by kernel_rfl),
    trivial⟩ (fun L0 w1 hp1 => ?_)
  refine k1 _ _ ?_
  refine wp_seq_k (fun K2 k2 => ?_)
  refine goes (ks := [.det (.pointer (some ⟨(L0.b 0), 0, none⟩)), .det (QV f), .det (.bool true), .det (.bool true), .det (.pointer (some ⟨(L0.b 0), 6, none⟩)), .det (QV g), .det (.bool true), .det (.bool true), .det (.bool true)]) (T := [0, 1, 3, 7, 15, 31, 63, 127, 255]) (nt := 11) (nh := 1) (H := [((L0.b 0), QC2 f g)]) (A := fun L => [QV2 f g, .pointer (some ⟨(L0.b 0), 0, none⟩), .bool true, .pointer (some ⟨(L0.b 0), 0, none⟩), QV f, .bool true, .bool true, .pointer (some ⟨(L0.b 0), 6, none⟩), QV g, .bool true, .bool true]) (H' := fun L => [((L0.b 0), QC2 f g)]) (by kernel_rfl) rfl rfl rfl (fun L => by kernel_rfl) (fun L => by kernel_rfl) hp1 ⟨
    ob_index (b := (L0.b 0)) (off := 0) (k := 0) (sz := 6) (n := 2) (fun _ => rfl) rfl rfl (fun _ => by kernel_rfl) (fun _ => by kernel_rfl) Tryd.underlying26 sizeF (by decide) rfl,
    ob_load (b := (L0.b 0)) (off := 0) (cs := QC f) (by kernel_rfl) (fun _ => rfl) rfl rfl (fun _ => by kernel_rfl) (fun _ _ hs => partQ2_0 (seen_at (k := 0) hs rfl)) Tryd.underlying24 rfl (sizeQC _),
    ob_call (vs := #[QV f]) (by kernel_rfl) (by kernel_rfl) (fun _ => rfl) rfl rfl (fun _ => by kernel_rfl) (fun w hb _ => by have h := K.may f w (K.stay hg hb) rf; rw [decide_eq_true lf] at h; exact h),
    ob_move (fun _ => rfl) rfl rfl (fun _ => by kernel_rfl),
    ob_index (b := (L0.b 0)) (off := 0) (k := 1) (sz := 6) (n := 2) (fun _ => by kernel_rfl) rfl rfl (fun _ => by kernel_rfl) (fun _ => by kernel_rfl) Tryd.underlying26 sizeF (by decide) rfl,
    ob_load (b := (L0.b 0)) (off := 6) (cs := QC g) (by kernel_rfl) (fun _ => by kernel_rfl) rfl rfl (fun _ => by kernel_rfl) (fun _ _ hs => partQ2_1 (seen_at (k := 0) hs rfl)) Tryd.underlying24 rfl (sizeQC _),
    ob_call (vs := #[QV g]) (by kernel_rfl) (by kernel_rfl) (fun _ => by kernel_rfl) rfl rfl (fun _ => by kernel_rfl) (fun w hb _ => by have h := K.may g w (K.stay hg hb) rg; rw [decide_eq_true lg] at h; exact h),
    ob_pickT (fun _ => rfl) rfl rfl (fun _ => by kernel_rfl) (fun _ => by kernel_rfl),
    ob_assign (fun _ => rfl) rfl rfl (fun _ => by kernel_rfl),
    trivial⟩ (fun L1 w2 hp2 => ?_)
  refine k2 _ _ ?_
  refine wp_ret ?_
  exact bodyPost_ret (v := .bool true) (res_t rfl (by kernel_rfl) _) rfl ⟨rfl, hp2.bel⟩
set_option maxHeartbeats 4000000 in
theorem fp2May0 {G : World → Prop} (K : FpK G) (f g : Nat → Int) (w : World) (hg : G w) (rf : Rg f 6) (lf : ¬ val f 6 < RI) : Calls Tryd.prog 9 #[QV2 f g] w (Ret (.bool false) w) := by
  have hp0 := Heap.start w
  go_enter Tryd.func9, Tryd.ntmps9
  refine wp_seq_k (fun K1 k1 => ?_)
  refine goes (ks := [.alloc (QC2 f g), .det (.bool false)]) (T := [0, 0]) (nt := 11) (nh := 0) (H := []) (A := fun L => [QV2 f g, .pointer (some ⟨L.b 0, 0, none⟩), .bool false, undef, undef, undef, undef, undef, undef, undef, undef]) (H' := fun L => [(L.b 0, QC2 f g)]) (by kernel_rfl) rfl rfl rfl (fun L => by kernel_rfl) (fun L => by kernel_rfl) hp0 ⟨
    ob_box (v := QV2 f g) (fun _ => rfl) rfl rfl (fun _ => by kernel_rfl) rfl,
    ob_assign (fun _ => rfl) rfl rfl (fun _ => by kernel_rfl),
    trivial⟩ (fun L0 w1 hp1 => ?_)
  refine k1 _ _ ?_
  refine wp_seq_k (fun K2 k2 => ?_)
  refine goes (ks := [.det (.pointer (some ⟨(L0.b 0), 0, none⟩)), .det (QV f), .det (.bool false), .det (.bool false), .det undef, .det undef, .det undef, .det (.bool false), .det (.bool false)]) (T := [0, 1, 3, 7, 15, 31, 63, 127, 255]) (nt := 11) (nh := 1) (H := [((L0.b 0), QC2 f g)]) (A := fun L => [QV2 f g, .pointer (some ⟨(L0.b 0), 0, none⟩), .bool false, .pointer (some ⟨(L0.b 0), 0, none⟩), QV f, .bool false, .bool false, undef, undef, undef, .bool false]) (H' := fun L => [((L0.b 0), QC2 f g)]) (by kernel_rfl) rfl rfl rfl (fun L => by kernel_rfl) (fun L => by kernel_rfl) hp1 ⟨
    ob_index (b := (L0.b 0)) (off := 0) (k := 0) (sz := 6) (n := 2) (fun _ => rfl) rfl rfl (fun _ => by kernel_rfl) (fun _ => by kernel_rfl) Tryd.underlying26 sizeF (by decide) rfl,
    ob_load (b := (L0.b 0)) (off := 0) (cs := QC f) (by kernel_rfl) (fun _ => rfl) rfl rfl (fun _ => by kernel_rfl) (fun _ _ hs => partQ2_0 (seen_at (k := 0) hs rfl)) Tryd.underlying24 rfl (sizeQC _),
    ob_call (vs := #[QV f]) (by kernel_rfl) (by kernel_rfl) (fun _ => rfl) rfl rfl (fun _ => by kernel_rfl) (fun w hb _ => by have h := K.may f w (K.stay hg hb) rf; rw [decide_eq_false lf] at h; exact h),
    ob_move (fun _ => rfl) rfl rfl (fun _ => by kernel_rfl),
    ob_skip (fun _ => by kernel_rfl) rfl,
    ob_skip (fun _ => by kernel_rfl) rfl,
    ob_skip (fun _ => by kernel_rfl) rfl,
    ob_pickF (fun _ => rfl) rfl rfl (fun _ => by kernel_rfl) (fun _ => by kernel_rfl),
    ob_assign (fun _ => rfl) rfl rfl (fun _ => by kernel_rfl),
    trivial⟩ (fun L1 w2 hp2 => ?_)
  refine k2 _ _ ?_
  refine wp_ret ?_
  exact bodyPost_ret (v := .bool false) (res_t rfl (by kernel_rfl) _) rfl ⟨rfl, hp2.bel⟩
set_option maxHeartbeats 4000000 in
theorem fp2May1 {G : World → Prop} (K : FpK G) (f g : Nat → Int) (w : World) (hg : G w) (rf : Rg f 6) (rg : Rg g 6) (lf : val f 6 < RI) (lg : ¬ val g 6 < RI) : Calls Tryd.prog 9 #[QV2 f g] w (Ret (.bool false) w) := by
  have hp0 := Heap.start w
  go_enter Tryd.func9, Tryd.ntmps9
  refine wp_seq_k (fun K1 k1 => ?_)
  refine goes (ks := [.alloc (QC2 f g), .det (.bool false)]) (T := [0, 0]) (nt := 11) (nh := 0) (H := []) (A := fun L => [QV2 f g, .pointer (some ⟨L.b 0, 0, none⟩), .bool false, undef, undef, undef, undef, undef, undef, undef, undef]) (H' := fun L => [(L.b 0, QC2 f g)]) (by kernel_rfl) rfl rfl rfl (fun L => by kernel_rfl) (fun L => by kernel_rfl) hp0 ⟨
    ob_box (v := QV2 f g) (fun _ => rfl) rfl rfl (fun _ => by kernel_rfl) rfl,
    ob_assign (fun _ => rfl) rfl rfl (fun _ => by kernel_rfl),
    trivial⟩ (fun L0 w1 hp1 => ?_)
  refine k1 _ _ ?_
  refine wp_seq_k (fun K2 k2 => ?_)
  refine goes (ks := [.det (.pointer (some ⟨(L0.b 0), 0, none⟩)), .det (QV f), .det (.bool true), .det (.bool true), .det (.pointer (some ⟨(L0.b 0), 6, none⟩)), .det (QV g), .det (.bool false), .det (.bool false), .det (.bool false)]) (T := [0, 1, 3, 7, 15, 31, 63, 127, 255]) (nt := 11) (nh := 1) (H := [((L0.b 0), QC2 f g)]) (A := fun L => [QV2 f g, .pointer (some ⟨(L0.b 0), 0, none⟩), .bool false, .pointer (some ⟨(L0.b 0), 0, none⟩), QV f, .bool true, .bool true, .pointer (some ⟨(L0.b 0), 6, none⟩), QV g, .bool false, .bool false]) (H' := fun L => [((L0.b 0), QC2 f g)]) (by kernel_rfl) rfl rfl rfl (fun L => by kernel_rfl) (fun L => by kernel_rfl) hp1 ⟨
    ob_index (b := (L0.b 0)) (off := 0) (k := 0) (sz := 6) (n := 2) (fun _ => rfl) rfl rfl (fun _ => by kernel_rfl) (fun _ => by kernel_rfl) Tryd.underlying26 sizeF (by decide) rfl,
    ob_load (b := (L0.b 0)) (off := 0) (cs := QC f) (by kernel_rfl) (fun _ => rfl) rfl rfl (fun _ => by kernel_rfl) (fun _ _ hs => partQ2_0 (seen_at (k := 0) hs rfl)) Tryd.underlying24 rfl (sizeQC _),
    ob_call (vs := #[QV f]) (by kernel_rfl) (by kernel_rfl) (fun _ => rfl) rfl rfl (fun _ => by kernel_rfl) (fun w hb _ => by have h := K.may f w (K.stay hg hb) rf; rw [decide_eq_true lf] at h; exact h),
    ob_move (fun _ => rfl) rfl rfl (fun _ => by kernel_rfl),
    ob_index (b := (L0.b 0)) (off := 0) (k := 1) (sz := 6) (n := 2) (fun _ => by kernel_rfl) rfl rfl (fun _ => by kernel_rfl) (fun _ => by kernel_rfl) Tryd.underlying26 sizeF (by decide) rfl,
    ob_load (b := (L0.b 0)) (off := 6) (cs := QC g) (by kernel_rfl) (fun _ => by kernel_rfl) rfl rfl (fun _ => by kernel_rfl) (fun _ _ hs => partQ2_1 (seen_at (k := 0) hs rfl)) Tryd.underlying24 rfl (sizeQC _),
    ob_call (vs := #[QV g]) (by kernel_rfl) (by kernel_rfl) (fun _ => by kernel_rfl) rfl rfl (fun _ => by kernel_rfl) (fun w hb _ => by have h := K.may g w (K.stay hg hb) rg; rw [decide_eq_false lg] at h; exact h),
    ob_pickT (fun _ => rfl) rfl rfl (fun _ => by kernel_rfl) (fun _ => by kernel_rfl),
    ob_assign (fun _ => rfl) rfl rfl (fun _ => by kernel_rfl),
    trivial⟩ (fun L1 w2 hp2 => ?_)
  refine k2 _ _ ?_
  refine wp_ret ?_
  exact bodyPost_ret (v := .bool false) (res_t rfl (by kernel_rfl) _) rfl ⟨rfl, hp2.bel⟩
end Go.Proofs.YtgoghcmnnhglhaaDoor.fpn

/- Package fp2: roots. -/
namespace Go.Proofs.YtgoghcmnnhglhaaDoor.fpn
open Go.RowKit Pl
set_option linter.unusedVariables false
set_option linter.unusedSimpArgs false
set_option maxRecDepth 4000

/-- 1 / 2. -/
def hf : F := ⟨(RN + 1) / 2, by decide +kernel⟩
theorem hf_two : hf + hf = 1 := by kernel_rfl

set_option maxHeartbeats 4000000 in
theorem fp2flat1 {G : World → Prop} (K : FpK G) (z : F) (w : World) (hg : G w) (hq : isq z = true) : Calls Tryd.prog 68 #[FV z] w (Ret (PV ⟨root z, 0⟩) w) := by
  have hp0 := Heap.start w
  go_enter Tryd.func68, Tryd.ntmps68
  refine wp_seq_k (fun K1 k1 => ?_)
  refine goes (ks := [.alloc (FC z), .alloc (PC 0)]) (T := [0, 0]) (nt := 24) (nh := 0) (H := []) (A := fun L => [FV z, .pointer (some ⟨L.b 0, 0, none⟩), .pointer (some ⟨L.b 1, 0, none⟩), undef, undef, undef, undef, undef, undef, undef, undef, undef, undef, undef, undef, undef, undef, undef, undef, undef, undef, undef, undef, undef]) (H' := fun L => [(L.b 0, FC z), (L.b 1, PC 0)]) (by kernel_rfl) rfl rfl rfl (fun L => by kernel_rfl) (fun L => by kernel_rfl) hp0 ⟨
    ob_box (v := FV z) (fun _ => rfl) rfl rfl (fun _ => by kernel_rfl) rfl,
    ob_alloc (v := PV 0) (fun _ => rfl) rfl rfl zeroP rfl,
    trivial⟩ (fun L0 w1 hp1 => ?_)
  refine k1 _ _ ?_
  refine wp_seq_k (fun K2 k2 => ?_)
  refine wp_seq_k (fun K3 k3 => ?_)
  refine goes (ks := [.det (FV z), .det (.tuple #[FV ((root z)), .bool true]), .det (.tuple #[FV ((root z)), .bool true]), .det (FV ((root z))), .det (.bool true), .alloc (FC 0), .store (.new 5) 0 (FC ((root z))) (FC ((root z))), .det (.bool true)]) (T := [0, 1, 3, 7, 7, 0, 47, 127]) (nt := 24) (nh := 2) (H := [((L0.b 0), FC z), ((L0.b 1), PC 0)]) (A := fun L => [FV z, .pointer (some ⟨(L0.b 0), 0, none⟩), .pointer (some ⟨(L0.b 1), 0, none⟩), .pointer (some ⟨L.b 5, 0, none⟩), .bool true, undef, undef, .tuple #[FV ((root z)), .bool true], FV z, .tuple #[FV ((root z)), .bool true], FV ((root z)), .bool true, undef, undef, undef, undef, undef, undef, undef, undef, undef, undef, undef, undef]) (H' := fun L => [((L0.b 0), FC z), ((L0.b 1), PC 0), (L.b 5, FC ((root z)))]) (by kernel_rfl) rfl rfl rfl (fun L => by kernel_rfl) (fun L => by kernel_rfl) hp1 ⟨
    ob_load (b := (L0.b 0)) (off := 0) (cs := FC z) (by kernel_rfl) (fun _ => rfl) rfl rfl (fun _ => by kernel_rfl) (fun _ _ hs => (seen_at (k := 0) hs rfl).cells) Tryd.underlying24 rfl (sizeFC _),
    ob_call (vs := #[FV z]) (by kernel_rfl) (by kernel_rfl) (fun _ => rfl) rfl rfl (fun _ => by kernel_rfl) (fun w hb _ => by have h := K.sqrt z w (K.stay hg hb); rw [hq] at h; exact h),
    ob_move (fun _ => rfl) rfl rfl (fun _ => by kernel_rfl),
    ob_extract (vs := #[FV ((root z)), .bool true]) (fun _ => rfl) rfl rfl (fun _ => by kernel_rfl) rfl,
    ob_extract (vs := #[FV ((root z)), .bool true]) (fun _ => rfl) rfl rfl (fun _ => by kernel_rfl) rfl,
    ob_alloc (v := FV 0) (fun _ => rfl) rfl rfl zeroF rfl,
    ob_store (old := FC 0) (fun _ => rfl) rfl rfl (fun _ => by kernel_rfl) (fun _ => by kernel_rfl) rfl (sizeFC _) (FC_one _) (le_len (FC_len _) (FC_len _) (by decide)) (splice_all ((FC_len _).trans (FC_len _).symm)).symm,
    ob_assign (fun _ => rfl) rfl rfl (fun _ => by kernel_rfl),
    trivial⟩ (fun L1 w2 hp2 => ?_)
  refine k3 _ _ ?_
  refine wp_seq_k (fun K4 k4 => ?_)
  refine goes (ks := [.det (.bool true)]) (T := [0]) (nt := 24) (nh := 3) (H := [((L0.b 0), FC z), ((L0.b 1), PC 0), ((L1.b 5), FC ((root z)))]) (A := fun L => [FV z, .pointer (some ⟨(L0.b 0), 0, none⟩), .pointer (some ⟨(L0.b 1), 0, none⟩), .pointer (some ⟨(L1.b 5), 0, none⟩), .bool true, undef, undef, .tuple #[FV ((root z)), .bool true], FV z, .tuple #[FV ((root z)), .bool true], FV ((root z)), .bool true, .bool true, undef, undef, undef, undef, undef, undef, undef, undef, undef, undef, undef]) (H' := fun L => [((L0.b 0), FC z), ((L0.b 1), PC 0), ((L1.b 5), FC ((root z)))]) (by kernel_rfl) rfl rfl rfl (fun L => by kernel_rfl) (fun L => by kernel_rfl) hp2 ⟨
    ob_move (fun _ => rfl) rfl rfl (fun _ => by kernel_rfl),
    trivial⟩ (fun L2 w3 hp3 => ?_)
  refine k4 _ _ ?_
  refine wp_cond_true (by kernel_rfl) ?_
  refine wp_seq_k (fun K5 k5 => ?_)
  refine goes (ks := [.det (FV ((root z))), .det (PV (⟨(root z), 0⟩)), .store (.base 1) 0 (PC (⟨(root z), 0⟩)) (PC (⟨(root z), 0⟩))]) (T := [0, 1, 3]) (nt := 24) (nh := 3) (H := [((L0.b 0), FC z), ((L0.b 1), PC 0), ((L1.b 5), FC ((root z)))]) (A := fun L => [FV z, .pointer (some ⟨(L0.b 0), 0, none⟩), .pointer (some ⟨(L0.b 1), 0, none⟩), .pointer (some ⟨(L1.b 5), 0, none⟩), .bool true, undef, undef, .tuple #[FV ((root z)), .bool true], FV z, .tuple #[FV ((root z)), .bool true], FV ((root z)), .bool true, .bool true, FV ((root z)), PV (⟨(root z), 0⟩), undef, undef, undef, undef, undef, undef, undef, undef, undef]) (H' := fun L => [((L0.b 0), FC z), ((L0.b 1), PC (⟨(root z), 0⟩)), ((L1.b 5), FC ((root z)))]) (by kernel_rfl) rfl rfl rfl (fun L => by kernel_rfl) (fun L => by kernel_rfl) hp3 ⟨
    ob_load (b := (L1.b 5)) (off := 0) (cs := FC ((root z))) (by kernel_rfl) (fun _ => rfl) rfl rfl (fun _ => by kernel_rfl) (fun _ _ hs => (seen_at (k := 2) hs rfl).cells) Tryd.underlying24 rfl (sizeFC _),
    ob_build (qs := #[(0, FV ((root z)))]) (fun _ => rfl) rfl rfl (fun _ => by kernel_rfl) (buildPa _),
    ob_store (old := PC 0) (fun _ => rfl) rfl rfl (fun _ => by kernel_rfl) (fun _ => by kernel_rfl) rfl (sizePC _) (PC_one _) (le_len (PC_len _) (PC_len _) (by decide)) (splice_all ((PC_len _).trans (PC_len _).symm)).symm,
    trivial⟩ (fun L3 w4 hp4 => ?_)
  refine k5 _ _ ?_
  refine wp_ret ?_
  exact bodyPost_ret (v := PV (⟨(root z), 0⟩)) (res_c rfl (by kernel_rfl) (hp4.bound 1 rfl).2 Tryd.underlying26 rfl (sizePC _)) rfl ⟨rfl, hp4.bel⟩
set_option maxHeartbeats 4000000 in
theorem fp2flat2 {G : World → Prop} (K : FpK G) (z : F) (w : World) (hg : G w) (hq : isq z = false) : Calls Tryd.prog 68 #[FV z] w (Ret (PV ⟨0, root (-z)⟩) w) := by
  have hp0 := Heap.start w
  go_enter Tryd.func68, Tryd.ntmps68
  refine wp_seq_k (fun K1 k1 => ?_)
  refine goes (ks := [.alloc (FC z), .alloc (PC 0)]) (T := [0, 0]) (nt := 24) (nh := 0) (H := []) (A := fun L => [FV z, .pointer (some ⟨L.b 0, 0, none⟩), .pointer (some ⟨L.b 1, 0, none⟩), undef, undef, undef, undef, undef, undef, undef, undef, undef, undef, undef, undef, undef, undef, undef, undef, undef, undef, undef, undef, undef]) (H' := fun L => [(L.b 0, FC z), (L.b 1, PC 0)]) (by kernel_rfl) rfl rfl rfl (fun L => by kernel_rfl) (fun L => by kernel_rfl) hp0 ⟨
    ob_box (v := FV z) (fun _ => rfl) rfl rfl (fun _ => by kernel_rfl) rfl,
    ob_alloc (v := PV 0) (fun _ => rfl) rfl rfl zeroP rfl,
    trivial⟩ (fun L0 w1 hp1 => ?_)
  refine k1 _ _ ?_
  refine wp_seq_k (fun K2 k2 => ?_)
  refine wp_seq_k (fun K3 k3 => ?_)
  refine goes (ks := [.det (FV z), .det (.tuple #[FV ((root z)), .bool false]), .det (.tuple #[FV ((root z)), .bool false]), .det (FV ((root z))), .det (.bool false), .alloc (FC 0), .store (.new 5) 0 (FC ((root z))) (FC ((root z))), .det (.bool false)]) (T := [0, 1, 3, 7, 7, 0, 47, 127]) (nt := 24) (nh := 2) (H := [((L0.b 0), FC z), ((L0.b 1), PC 0)]) (A := fun L => [FV z, .pointer (some ⟨(L0.b 0), 0, none⟩), .pointer (some ⟨(L0.b 1), 0, none⟩), .pointer (some ⟨L.b 5, 0, none⟩), .bool false, undef, undef, .tuple #[FV ((root z)), .bool false], FV z, .tuple #[FV ((root z)), .bool false], FV ((root z)), .bool false, undef, undef, undef, undef, undef, undef, undef, undef, undef, undef, undef, undef]) (H' := fun L => [((L0.b 0), FC z), ((L0.b 1), PC 0), (L.b 5, FC ((root z)))]) (by kernel_rfl) rfl rfl rfl (fun L => by kernel_rfl) (fun L => by kernel_rfl) hp1 ⟨
    ob_load (b := (L0.b 0)) (off := 0) (cs := FC z) (by kernel_rfl) (fun _ => rfl) rfl rfl (fun _ => by kernel_rfl) (fun _ _ hs => (seen_at (k := 0) hs rfl).cells) Tryd.underlying24 rfl (sizeFC _),
    ob_call (vs := #[FV z]) (by kernel_rfl) (by kernel_rfl) (fun _ => rfl) rfl rfl (fun _ => by kernel_rfl) (fun w hb _ => by have h := K.sqrt z w (K.stay hg hb); rw [hq] at h; exact h),
    ob_move (fun _ => rfl) rfl rfl (fun _ => by kernel_rfl),
    ob_extract (vs := #[FV ((root z)), .bool false]) (fun _ => rfl) rfl rfl (fun _ => by kernel_rfl) rfl,
    ob_extract (vs := #[FV ((root z)), .bool false]) (fun _ => rfl) rfl rfl (fun _ => by kernel_rfl) rfl,
    ob_alloc (v := FV 0) (fun _ => rfl) rfl rfl zeroF rfl,
    ob_store (old := FC 0) (fun _ => rfl) rfl rfl (fun _ => by kernel_rfl) (fun _ => by kernel_rfl) rfl (sizeFC _) (FC_one _) (le_len (FC_len _) (FC_len _) (by decide)) (splice_all ((FC_len _).trans (FC_len _).symm)).symm,
    ob_assign (fun _ => rfl) rfl rfl (fun _ => by kernel_rfl),
    trivial⟩ (fun L1 w2 hp2 => ?_)
  refine k3 _ _ ?_
  refine wp_seq_k (fun K4 k4 => ?_)
  refine goes (ks := [.det (.bool false)]) (T := [0]) (nt := 24) (nh := 3) (H := [((L0.b 0), FC z), ((L0.b 1), PC 0), ((L1.b 5), FC ((root z)))]) (A := fun L => [FV z, .pointer (some ⟨(L0.b 0), 0, none⟩), .pointer (some ⟨(L0.b 1), 0, none⟩), .pointer (some ⟨(L1.b 5), 0, none⟩), .bool false, undef, undef, .tuple #[FV ((root z)), .bool false], FV z, .tuple #[FV ((root z)), .bool false], FV ((root z)), .bool false, .bool false, undef, undef, undef, undef, undef, undef, undef, undef, undef, undef, undef]) (H' := fun L => [((L0.b 0), FC z), ((L0.b 1), PC 0), ((L1.b 5), FC ((root z)))]) (by kernel_rfl) rfl rfl rfl (fun L => by kernel_rfl) (fun L => by kernel_rfl) hp2 ⟨
    ob_move (fun _ => rfl) rfl rfl (fun _ => by kernel_rfl),
    trivial⟩ (fun L2 w3 hp3 => ?_)
  refine k4 _ _ ?_
  refine wp_cond_false (by kernel_rfl) ?_
  refine skips ?_
  refine k2 _ _ ?_
  refine wp_seq_k (fun K5 k5 => ?_)
  refine goes (ks := [.det (FV z), .det (FV ((-z))), .det (.tuple #[FV ((root ((-z)))), .bool (isq ((-z)))]), .det (.tuple #[FV ((root ((-z)))), .bool (isq ((-z)))]), .det (FV ((root ((-z))))), .det (.bool (isq ((-z)))), .alloc (FC 0), .store (.new 6) 0 (FC ((root ((-z))))) (FC ((root ((-z))))), .det (.bool (isq ((-z))))]) (T := [0, 1, 3, 7, 15, 15, 0, 95, 255]) (nt := 24) (nh := 3) (H := [((L0.b 0), FC z), ((L0.b 1), PC 0), ((L1.b 5), FC ((root z)))]) (A := fun L => [FV z, .pointer (some ⟨(L0.b 0), 0, none⟩), .pointer (some ⟨(L0.b 1), 0, none⟩), .pointer (some ⟨(L1.b 5), 0, none⟩), .bool false, .pointer (some ⟨L.b 6, 0, none⟩), .bool (isq ((-z))), .tuple #[FV ((root z)), .bool false], FV z, .tuple #[FV ((root z)), .bool false], FV ((root z)), .bool false, .bool false, undef, undef, .tuple #[FV ((root ((-z)))), .bool (isq ((-z)))], FV z, FV ((-z)), .tuple #[FV ((root ((-z)))), .bool (isq ((-z)))], FV ((root ((-z)))), .bool (isq ((-z))), undef, undef, undef]) (H' := fun L => [((L0.b 0), FC z), ((L0.b 1), PC 0), ((L1.b 5), FC ((root z))), (L.b 6, FC ((root ((-z)))))]) (by kernel_rfl) rfl rfl rfl (fun L => by kernel_rfl) (fun L => by kernel_rfl) hp3 ⟨
    ob_load (b := (L0.b 0)) (off := 0) (cs := FC z) (by kernel_rfl) (fun _ => rfl) rfl rfl (fun _ => by kernel_rfl) (fun _ _ hs => (seen_at (k := 0) hs rfl).cells) Tryd.underlying24 rfl (sizeFC _),
    ob_call (vs := #[FV z]) (by kernel_rfl) (by kernel_rfl) (fun _ => rfl) rfl rfl (fun _ => by kernel_rfl) (fun w hb _ => K.neg _ w (K.stay hg hb)),
    ob_call (vs := #[FV ((-z))]) (by kernel_rfl) (by kernel_rfl) (fun _ => rfl) rfl rfl (fun _ => by kernel_rfl) (fun w hb _ => K.sqrt _ w (K.stay hg hb)),
    ob_move (fun _ => rfl) rfl rfl (fun _ => by kernel_rfl),
    ob_extract (vs := #[FV ((root ((-z)))), .bool (isq ((-z)))]) (fun _ => rfl) rfl rfl (fun _ => by kernel_rfl) rfl,
    ob_extract (vs := #[FV ((root ((-z)))), .bool (isq ((-z)))]) (fun _ => rfl) rfl rfl (fun _ => by kernel_rfl) rfl,
    ob_alloc (v := FV 0) (fun _ => rfl) rfl rfl zeroF rfl,
    ob_store (old := FC 0) (fun _ => rfl) rfl rfl (fun _ => by kernel_rfl) (fun _ => by kernel_rfl) rfl (sizeFC _) (FC_one _) (le_len (FC_len _) (FC_len _) (by decide)) (splice_all ((FC_len _).trans (FC_len _).symm)).symm,
    ob_assign (fun _ => rfl) rfl rfl (fun _ => by kernel_rfl),
    trivial⟩ (fun L3 w4 hp4 => ?_)
  refine k5 _ _ ?_
  refine wp_seq_k (fun K6 k6 => ?_)
  refine goes (ks := [.det (FV 0), .det (FV ((root ((-z))))), .det (PV (⟨0, (root ((-z)))⟩)), .store (.base 1) 0 (PC (⟨0, (root ((-z)))⟩)) (PC (⟨0, (root ((-z)))⟩))]) (T := [0, 0, 3, 7]) (nt := 24) (nh := 4) (H := [((L0.b 0), FC z), ((L0.b 1), PC 0), ((L1.b 5), FC ((root z))), ((L3.b 6), FC ((root ((-z)))))]) (A := fun L => [FV z, .pointer (some ⟨(L0.b 0), 0, none⟩), .pointer (some ⟨(L0.b 1), 0, none⟩), .pointer (some ⟨(L1.b 5), 0, none⟩), .bool false, .pointer (some ⟨(L3.b 6), 0, none⟩), .bool (isq ((-z))), .tuple #[FV ((root z)), .bool false], FV z, .tuple #[FV ((root z)), .bool false], FV ((root z)), .bool false, .bool false, undef, undef, .tuple #[FV ((root ((-z)))), .bool (isq ((-z)))], FV z, FV ((-z)), .tuple #[FV ((root ((-z)))), .bool (isq ((-z)))], FV ((root ((-z)))), .bool (isq ((-z))), FV 0, FV ((root ((-z)))), PV (⟨0, (root ((-z)))⟩)]) (H' := fun L => [((L0.b 0), FC z), ((L0.b 1), PC (⟨0, (root ((-z)))⟩)), ((L1.b 5), FC ((root z))), ((L3.b 6), FC ((root ((-z)))))]) (by kernel_rfl) rfl rfl rfl (fun L => by kernel_rfl) (fun L => by kernel_rfl) hp4 ⟨
    ob_build (qs := #[]) (fun _ => rfl) rfl rfl (fun _ => by kernel_rfl) buildF0,
    ob_load (b := (L3.b 6)) (off := 0) (cs := FC ((root ((-z))))) (by kernel_rfl) (fun _ => rfl) rfl rfl (fun _ => by kernel_rfl) (fun _ _ hs => (seen_at (k := 3) hs rfl).cells) Tryd.underlying24 rfl (sizeFC _),
    ob_build (qs := #[(0, FV 0), (1, FV ((root ((-z)))))]) (fun _ => rfl) rfl rfl (fun _ => by kernel_rfl) (buildP _ _),
    ob_store (old := PC 0) (fun _ => rfl) rfl rfl (fun _ => by kernel_rfl) (fun _ => by kernel_rfl) rfl (sizePC _) (PC_one _) (le_len (PC_len _) (PC_len _) (by decide)) (splice_all ((PC_len _).trans (PC_len _).symm)).symm,
    trivial⟩ (fun L4 w5 hp5 => ?_)
  refine k6 _ _ ?_
  refine wp_ret ?_
  exact bodyPost_ret (v := PV (⟨0, (root ((-z)))⟩)) (res_c rfl (by kernel_rfl) (hp5.bound 1 rfl).2 Tryd.underlying26 rfl (sizePC _)) rfl ⟨rfl, hp5.bel⟩
set_option maxHeartbeats 4000000 in
theorem fp2cross0 {G : World → Prop} (K : FpK G) (x : F2) (w : World) (hg : G w) (hq : isq x.norm = false) : Calls Tryd.prog 69 #[PV x] w (Ret (PV 0) w) := by
  have hp0 := Heap.start w
  go_enter Tryd.func69, Tryd.ntmps69
  refine wp_seq_k (fun K1 k1 => ?_)
  refine goes (ks := [.alloc (PC x), .alloc (PC 0)]) (T := [0, 0]) (nt := 52) (nh := 0) (H := []) (A := fun L => [PV x, .pointer (some ⟨L.b 0, 0, none⟩), .pointer (some ⟨L.b 1, 0, none⟩), undef, undef, undef, undef, undef, undef, undef, undef, undef, undef, undef, undef, undef, undef, undef, undef, undef, undef, undef, undef, undef, undef, undef, undef, undef, undef, undef, undef, undef, undef, undef, undef, undef, undef, undef, undef, undef, undef, undef, undef, undef, undef, undef, undef, undef, undef, undef, undef, undef]) (H' := fun L => [(L.b 0, PC x), (L.b 1, PC 0)]) (by kernel_rfl) rfl rfl rfl (fun L => by kernel_rfl) (fun L => by kernel_rfl) hp0 ⟨
    ob_box (v := PV x) (fun _ => rfl) rfl rfl (fun _ => by kernel_rfl) rfl,
    ob_alloc (v := PV 0) (fun _ => rfl) rfl rfl zeroP rfl,
    trivial⟩ (fun L0 w1 hp1 => ?_)
  refine k1 _ _ ?_
  refine wp_seq_k (fun K2 k2 => ?_)
  refine goes (ks := [.det (PV x), .det (FV x.norm), .det (.tuple #[FV ((root x.norm)), .bool false]), .det (.tuple #[FV ((root x.norm)), .bool false]), .det (FV ((root x.norm))), .det (.bool false), .alloc (FC 0), .store (.new 6) 0 (FC ((root x.norm))) (FC ((root x.norm))), .det (.bool false)]) (T := [0, 1, 3, 7, 15, 15, 0, 95, 255]) (nt := 52) (nh := 2) (H := [((L0.b 0), PC x), ((L0.b 1), PC 0)]) (A := fun L => [PV x, .pointer (some ⟨(L0.b 0), 0, none⟩), .pointer (some ⟨(L0.b 1), 0, none⟩), .pointer (some ⟨L.b 6, 0, none⟩), .bool false, undef, undef, undef, .tuple #[FV ((root x.norm)), .bool false], PV x, FV x.norm, .tuple #[FV ((root x.norm)), .bool false], FV ((root x.norm)), .bool false, undef, undef, undef, undef, undef, undef, undef, undef, undef, undef, undef, undef, undef, undef, undef, undef, undef, undef, undef, undef, undef, undef, undef, undef, undef, undef, undef, undef, undef, undef, undef, undef, undef, undef, undef, undef, undef, undef]) (H' := fun L => [((L0.b 0), PC x), ((L0.b 1), PC 0), (L.b 6, FC ((root x.norm)))]) (by kernel_rfl) rfl rfl rfl (fun L => by kernel_rfl) (fun L => by kernel_rfl) hp1 ⟨
    ob_load (b := (L0.b 0)) (off := 0) (cs := PC x) (by kernel_rfl) (fun _ => rfl) rfl rfl (fun _ => by kernel_rfl) (fun _ _ hs => (seen_at (k := 0) hs rfl).cells) Tryd.underlying26 rfl (sizePC _),
    ob_call (vs := #[PV x]) (by kernel_rfl) (by kernel_rfl) (fun _ => rfl) rfl rfl (fun _ => by kernel_rfl) (fun w hb _ => fp2norm K _ w (K.stay hg hb)),
    ob_call (vs := #[FV x.norm]) (by kernel_rfl) (by kernel_rfl) (fun _ => rfl) rfl rfl (fun _ => by kernel_rfl) (fun w hb _ => by have h := K.sqrt x.norm w (K.stay hg hb); rw [hq] at h; exact h),
    ob_move (fun _ => rfl) rfl rfl (fun _ => by kernel_rfl),
    ob_extract (vs := #[FV ((root x.norm)), .bool false]) (fun _ => rfl) rfl rfl (fun _ => by kernel_rfl) rfl,
    ob_extract (vs := #[FV ((root x.norm)), .bool false]) (fun _ => rfl) rfl rfl (fun _ => by kernel_rfl) rfl,
    ob_alloc (v := FV 0) (fun _ => rfl) rfl rfl zeroF rfl,
    ob_store (old := FC 0) (fun _ => rfl) rfl rfl (fun _ => by kernel_rfl) (fun _ => by kernel_rfl) rfl (sizeFC _) (FC_one _) (le_len (FC_len _) (FC_len _) (by decide)) (splice_all ((FC_len _).trans (FC_len _).symm)).symm,
    ob_assign (fun _ => rfl) rfl rfl (fun _ => by kernel_rfl),
    trivial⟩ (fun L1 w2 hp2 => ?_)
  refine k2 _ _ ?_
  refine wp_seq_k (fun K3 k3 => ?_)
  refine wp_seq_k (fun K4 k4 => ?_)
  refine goes (ks := [.det (.bool false), .det (.bool true)]) (T := [0, 1]) (nt := 52) (nh := 3) (H := [((L0.b 0), PC x), ((L0.b 1), PC 0), ((L1.b 6), FC ((root x.norm)))]) (A := fun L => [PV x, .pointer (some ⟨(L0.b 0), 0, none⟩), .pointer (some ⟨(L0.b 1), 0, none⟩), .pointer (some ⟨(L1.b 6), 0, none⟩), .bool false, undef, undef, undef, .tuple #[FV ((root x.norm)), .bool false], PV x, FV x.norm, .tuple #[FV ((root x.norm)), .bool false], FV ((root x.norm)), .bool false, .bool false, .bool true, undef, undef, undef, undef, undef, undef, undef, undef, undef, undef, undef, undef, undef, undef, undef, undef, undef, undef, undef, undef, undef, undef, undef, undef, undef, undef, undef, undef, undef, undef, undef, undef, undef, undef, undef, undef]) (H' := fun L => [((L0.b 0), PC x), ((L0.b 1), PC 0), ((L1.b 6), FC ((root x.norm)))]) (by kernel_rfl) rfl rfl rfl (fun L => by kernel_rfl) (fun L => by kernel_rfl) hp2 ⟨
    ob_move (fun _ => rfl) rfl rfl (fun _ => by kernel_rfl),
    ob_not (b := false) (fun _ => rfl) rfl rfl (fun _ => by kernel_rfl),
    trivial⟩ (fun L2 w3 hp3 => ?_)
  refine k4 _ _ ?_
  refine wp_cond_true (by kernel_rfl) ?_
  refine wp_seq_k (fun K5 k5 => ?_)
  refine goes (ks := [.det (PV 0), .store (.base 1) 0 (PC 0) (PC 0)]) (T := [0, 1]) (nt := 52) (nh := 3) (H := [((L0.b 0), PC x), ((L0.b 1), PC 0), ((L1.b 6), FC ((root x.norm)))]) (A := fun L => [PV x, .pointer (some ⟨(L0.b 0), 0, none⟩), .pointer (some ⟨(L0.b 1), 0, none⟩), .pointer (some ⟨(L1.b 6), 0, none⟩), .bool false, undef, undef, undef, .tuple #[FV ((root x.norm)), .bool false], PV x, FV x.norm, .tuple #[FV ((root x.norm)), .bool false], FV ((root x.norm)), .bool false, .bool false, .bool true, PV 0, undef, undef, undef, undef, undef, undef, undef, undef, undef, undef, undef, undef, undef, undef, undef, undef, undef, undef, undef, undef, undef, undef, undef, undef, undef, undef, undef, undef, undef, undef, undef, undef, undef, undef, undef]) (H' := fun L => [((L0.b 0), PC x), ((L0.b 1), PC 0), ((L1.b 6), FC ((root x.norm)))]) (by kernel_rfl) rfl rfl rfl (fun L => by kernel_rfl) (fun L => by kernel_rfl) hp3 ⟨
    ob_build (qs := #[]) (fun _ => rfl) rfl rfl (fun _ => by kernel_rfl) buildP0,
    ob_store (old := PC 0) (fun _ => rfl) rfl rfl (fun _ => by kernel_rfl) (fun _ => by kernel_rfl) rfl (sizePC _) (PC_one _) (le_len (PC_len _) (PC_len _) (by decide)) (splice_all ((PC_len _).trans (PC_len _).symm)).symm,
    trivial⟩ (fun L3 w4 hp4 => ?_)
  refine k5 _ _ ?_
  refine wp_ret ?_
  exact bodyPost_ret (v := PV 0) (res_c rfl (by kernel_rfl) (hp4.bound 1 rfl).2 Tryd.underlying26 rfl (sizePC _)) rfl ⟨rfl, hp4.bel⟩
set_option maxHeartbeats 4000000 in
theorem fp2cross1 {G : World → Prop} (K : FpK G) (x : F2) (w : World) (hg : G w) (hH : ∀ w, G w → w.rangeAt 2 0 (FC hf)) (hq : isq x.norm = true) (ht : isq ((x.c0 + (root x.norm)) * hf) = true) (hn : root ((x.c0 + (root x.norm)) * hf) ≠ 0) : Calls Tryd.prog 69 #[PV x] w (Ret (PV ⟨root ((x.c0 + (root x.norm)) * hf), x.c1 * hf * finv (root ((x.c0 + (root x.norm)) * hf))⟩) w) := by
  have hp0 := Heap.start w
  go_enter Tryd.func69, Tryd.ntmps69
  refine wp_seq_k (fun K1 k1 => ?_)
  refine goes (ks := [.alloc (PC x), .alloc (PC 0)]) (T := [0, 0]) (nt := 52) (nh := 0) (H := []) (A := fun L => [PV x, .pointer (some ⟨L.b 0, 0, none⟩), .pointer (some ⟨L.b 1, 0, none⟩), undef, undef, undef, undef, undef, undef, undef, undef, undef, undef, undef, undef, undef, undef, undef, undef, undef, undef, undef, undef, undef, undef, undef, undef, undef, undef, undef, undef, undef, undef, undef, undef, undef, undef, undef, undef, undef, undef, undef, undef, undef, undef, undef, undef, undef, undef, undef, undef, undef]) (H' := fun L => [(L.b 0, PC x), (L.b 1, PC 0)]) (by kernel_rfl) rfl rfl rfl (fun L => by kernel_rfl) (fun L => by kernel_rfl) hp0 ⟨
    ob_box (v := PV x) (fun _ => rfl) rfl rfl (fun _ => by kernel_rfl) rfl,
    ob_alloc (v := PV 0) (fun _ => rfl) rfl rfl zeroP rfl,
    trivial⟩ (fun L0 w1 hp1 => ?_)
  refine k1 _ _ ?_
  refine wp_seq_k (fun K2 k2 => ?_)
  refine goes (ks := [.det (PV x), .det (FV x.norm), .det (.tuple #[FV ((root x.norm)), .bool true]), .det (.tuple #[FV ((root x.norm)), .bool true]), .det (FV ((root x.norm))), .det (.bool true), .alloc (FC 0), .store (.new 6) 0 (FC ((root x.norm))) (FC ((root x.norm))), .det (.bool true)]) (T := [0, 1, 3, 7, 15, 15, 0, 95, 255]) (nt := 52) (nh := 2) (H := [((L0.b 0), PC x), ((L0.b 1), PC 0)]) (A := fun L => [PV x, .pointer (some ⟨(L0.b 0), 0, none⟩), .pointer (some ⟨(L0.b 1), 0, none⟩), .pointer (some ⟨L.b 6, 0, none⟩), .bool true, undef, undef, undef, .tuple #[FV ((root x.norm)), .bool true], PV x, FV x.norm, .tuple #[FV ((root x.norm)), .bool true], FV ((root x.norm)), .bool true, undef, undef, undef, undef, undef, undef, undef, undef, undef, undef, undef, undef, undef, undef, undef, undef, undef, undef, undef, undef, undef, undef, undef, undef, undef, undef, undef, undef, undef, undef, undef, undef, undef, undef, undef, undef, undef, undef]) (H' := fun L => [((L0.b 0), PC x), ((L0.b 1), PC 0), (L.b 6, FC ((root x.norm)))]) (by kernel_rfl) rfl rfl rfl (fun L => by kernel_rfl) (fun L => by kernel_rfl) hp1 ⟨
    ob_load (b := (L0.b 0)) (off := 0) (cs := PC x) (by kernel_rfl) (fun _ => rfl) rfl rfl (fun _ => by kernel_rfl) (fun _ _ hs => (seen_at (k := 0) hs rfl).cells) Tryd.underlying26 rfl (sizePC _),
    ob_call (vs := #[PV x]) (by kernel_rfl) (by kernel_rfl) (fun _ => rfl) rfl rfl (fun _ => by kernel_rfl) (fun w hb _ => fp2norm K _ w (K.stay hg hb)),
    ob_call (vs := #[FV x.norm]) (by kernel_rfl) (by kernel_rfl) (fun _ => rfl) rfl rfl (fun _ => by kernel_rfl) (fun w hb _ => by have h := K.sqrt x.norm w (K.stay hg hb); rw [hq] at h; exact h),
    ob_move (fun _ => rfl) rfl rfl (fun _ => by kernel_rfl),
    ob_extract (vs := #[FV ((root x.norm)), .bool true]) (fun _ => rfl) rfl rfl (fun _ => by kernel_rfl) rfl,
    ob_extract (vs := #[FV ((root x.norm)), .bool true]) (fun _ => rfl) rfl rfl (fun _ => by kernel_rfl) rfl,
    ob_alloc (v := FV 0) (fun _ => rfl) rfl rfl zeroF rfl,
    ob_store (old := FC 0) (fun _ => rfl) rfl rfl (fun _ => by kernel_rfl) (fun _ => by kernel_rfl) rfl (sizeFC _) (FC_one _) (le_len (FC_len _) (FC_len _) (by decide)) (splice_all ((FC_len _).trans (FC_len _).symm)).symm,
    ob_assign (fun _ => rfl) rfl rfl (fun _ => by kernel_rfl),
    trivial⟩ (fun L1 w2 hp2 => ?_)
  refine k2 _ _ ?_
  refine wp_seq_k (fun K3 k3 => ?_)
  refine wp_seq_k (fun K4 k4 => ?_)
  refine goes (ks := [.det (.bool true), .det (.bool false)]) (T := [0, 1]) (nt := 52) (nh := 3) (H := [((L0.b 0), PC x), ((L0.b 1), PC 0), ((L1.b 6), FC ((root x.norm)))]) (A := fun L => [PV x, .pointer (some ⟨(L0.b 0), 0, none⟩), .pointer (some ⟨(L0.b 1), 0, none⟩), .pointer (some ⟨(L1.b 6), 0, none⟩), .bool true, undef, undef, undef, .tuple #[FV ((root x.norm)), .bool true], PV x, FV x.norm, .tuple #[FV ((root x.norm)), .bool true], FV ((root x.norm)), .bool true, .bool true, .bool false, undef, undef, undef, undef, undef, undef, undef, undef, undef, undef, undef, undef, undef, undef, undef, undef, undef, undef, undef, undef, undef, undef, undef, undef, undef, undef, undef, undef, undef, undef, undef, undef, undef, undef, undef, undef]) (H' := fun L => [((L0.b 0), PC x), ((L0.b 1), PC 0), ((L1.b 6), FC ((root x.norm)))]) (by kernel_rfl) rfl rfl rfl (fun L => by kernel_rfl) (fun L => by kernel_rfl) hp2 ⟨
    ob_move (fun _ => rfl) rfl rfl (fun _ => by kernel_rfl),
    ob_not (b := true) (fun _ => rfl) rfl rfl (fun _ => by kernel_rfl),
    trivial⟩ (fun L2 w3 hp3 => ?_)
  refine k4 _ _ ?_
  refine wp_cond_false (by kernel_rfl) ?_
  refine skips ?_
  refine k3 _ _ ?_
  refine wp_seq_k (fun K5 k5 => ?_)
  refine draws (by kernel_rfl) (ks := [.det (.pointer (some ⟨(L0.b 0), 0, none⟩)), .det (FV x.c0), .det (FV ((root x.norm))), .det (FV ((x.c0 + (root x.norm)))), .det (FV hf), .det (FV (((x.c0 + (root x.norm)) * hf))), .det (.tuple #[FV ((root (((x.c0 + (root x.norm)) * hf)))), .bool true]), .det (.tuple #[FV ((root (((x.c0 + (root x.norm)) * hf)))), .bool true]), .det (FV ((root (((x.c0 + (root x.norm)) * hf))))), .det (.bool true), .alloc (FC 0), .store (.new 10) 0 (FC ((root (((x.c0 + (root x.norm)) * hf))))) (FC ((root (((x.c0 + (root x.norm)) * hf))))), .det (.bool true)]) (T := [0, 1, 0, 7, 0, 31, 63, 127, 255, 255, 0, 1535, 4095]) (nt := 52) (nh := 3) (H := [((L0.b 0), PC x), ((L0.b 1), PC 0), ((L1.b 6), FC ((root x.norm)))]) (A := fun L => [PV x, .pointer (some ⟨(L0.b 0), 0, none⟩), .pointer (some ⟨(L0.b 1), 0, none⟩), .pointer (some ⟨(L1.b 6), 0, none⟩), .bool true, .pointer (some ⟨L.b 10, 0, none⟩), undef, undef, .tuple #[FV ((root x.norm)), .bool true], PV x, FV x.norm, .tuple #[FV ((root x.norm)), .bool true], FV ((root x.norm)), .bool true, .bool true, .bool false, undef, .tuple #[FV ((root (((x.c0 + (root x.norm)) * hf)))), .bool true], .pointer (some ⟨(L0.b 0), 0, none⟩), FV x.c0, FV ((root x.norm)), FV ((x.c0 + (root x.norm))), FV hf, FV (((x.c0 + (root x.norm)) * hf)), .tuple #[FV ((root (((x.c0 + (root x.norm)) * hf)))), .bool true], FV ((root (((x.c0 + (root x.norm)) * hf)))), .bool true, undef, undef, undef, undef, undef, undef, undef, undef, undef, undef, undef, undef, undef, undef, undef, undef, undef, undef, undef, undef, undef, undef, undef, undef, undef]) (H' := fun L => [((L0.b 0), PC x), ((L0.b 1), PC 0), ((L1.b 6), FC ((root x.norm))), (L.b 10, FC ((root (((x.c0 + (root x.norm)) * hf)))))]) (by kernel_rfl) rfl rfl rfl (fun L => by kernel_rfl) (fun L => by kernel_rfl) hp3 ⟨
    ob_index (b := (L0.b 0)) (off := 0) (k := 0) (sz := 6) (n := 2) (fun _ => rfl) rfl rfl (fun _ => by kernel_rfl) (fun _ => by kernel_rfl) Tryd.underlying26 sizeF (by decide) rfl,
    ob_load (b := (L0.b 0)) (off := 0) (cs := FC x.c0) (by kernel_rfl) (fun _ => rfl) rfl rfl (fun _ => by kernel_rfl) (fun _ _ hs => partF2_0 (seen_at (k := 0) hs rfl)) Tryd.underlying24 rfl (sizeFC _),
    ob_load (b := (L1.b 6)) (off := 0) (cs := FC ((root x.norm))) (by kernel_rfl) (fun _ => rfl) rfl rfl (fun _ => by kernel_rfl) (fun _ _ hs => (seen_at (k := 2) hs rfl).cells) Tryd.underlying24 rfl (sizeFC _),
    ob_call (vs := #[FV x.c0, FV ((root x.norm))]) (by kernel_rfl) (by kernel_rfl) (fun _ => rfl) rfl rfl (fun _ => by kernel_rfl) (fun w hb _ => K.add _ _ w (K.stay hg hb)),
    ob_load (b := 2) (off := 0) (cs := FC hf) (by kernel_rfl) (fun _ => rfl) rfl rfl (fun _ => by kernel_rfl) (fun _ w hs => hH w (K.stay hg hs.bel)) Tryd.underlying24 rfl (sizeFC _),
    ob_call (vs := #[FV ((x.c0 + (root x.norm))), FV hf]) (by kernel_rfl) (by kernel_rfl) (fun _ => rfl) rfl rfl (fun _ => by kernel_rfl) (fun w hb _ => K.mul _ _ w (K.stay hg hb)),
    ob_call (vs := #[FV (((x.c0 + (root x.norm)) * hf))]) (by kernel_rfl) (by kernel_rfl) (fun _ => rfl) rfl rfl (fun _ => by kernel_rfl) (fun w hb _ => by have h := K.sqrt (((x.c0 + (root x.norm)) * hf)) w (K.stay hg hb); rw [ht] at h; exact h),
    ob_move (fun _ => rfl) rfl rfl (fun _ => by kernel_rfl),
    ob_extract (vs := #[FV ((root (((x.c0 + (root x.norm)) * hf)))), .bool true]) (fun _ => rfl) rfl rfl (fun _ => by kernel_rfl) rfl,
    ob_extract (vs := #[FV ((root (((x.c0 + (root x.norm)) * hf)))), .bool true]) (fun _ => rfl) rfl rfl (fun _ => by kernel_rfl) rfl,
    ob_alloc (v := FV 0) (fun _ => rfl) rfl rfl zeroF rfl,
    ob_store (old := FC 0) (fun _ => rfl) rfl rfl (fun _ => by kernel_rfl) (fun _ => by kernel_rfl) rfl (sizeFC _) (FC_one _) (le_len (FC_len _) (FC_len _) (by decide)) (splice_all ((FC_len _).trans (FC_len _).symm)).symm,
    ob_assign (fun _ => rfl) rfl rfl (fun _ => by kernel_rfl),
    trivial⟩ (fun L3 w4 hp4 => ?_)
  refine k5 _ _ ?_
  refine wp_seq_k (fun K6 k6 => ?_)
  refine wp_seq_k (fun K7 k7 => ?_)
  refine goes (ks := [.det (.bool true), .det (.bool false)]) (T := [0, 1]) (nt := 52) (nh := 4) (H := [((L0.b 0), PC x), ((L0.b 1), PC 0), ((L1.b 6), FC ((root x.norm))), ((L3.b 10), FC ((root (((x.c0 + (root x.norm)) * hf)))))]) (A := fun L => [PV x, .pointer (some ⟨(L0.b 0), 0, none⟩), .pointer (some ⟨(L0.b 1), 0, none⟩), .pointer (some ⟨(L1.b 6), 0, none⟩), .bool true, .pointer (some ⟨(L3.b 10), 0, none⟩), undef, undef, .tuple #[FV ((root x.norm)), .bool true], PV x, FV x.norm, .tuple #[FV ((root x.norm)), .bool true], FV ((root x.norm)), .bool true, .bool true, .bool false, undef, .tuple #[FV ((root (((x.c0 + (root x.norm)) * hf)))), .bool true], .pointer (some ⟨(L0.b 0), 0, none⟩), FV x.c0, FV ((root x.norm)), FV ((x.c0 + (root x.norm))), FV hf, FV (((x.c0 + (root x.norm)) * hf)), .tuple #[FV ((root (((x.c0 + (root x.norm)) * hf)))), .bool true], FV ((root (((x.c0 + (root x.norm)) * hf)))), .bool true, .bool true, .bool false, undef, undef, undef, undef, undef, undef, undef, undef, undef, undef, undef, undef, undef, undef, undef, undef, undef, undef, undef, undef, undef, undef, undef]) (H' := fun L => [((L0.b 0), PC x), ((L0.b 1), PC 0), ((L1.b 6), FC ((root x.norm))), ((L3.b 10), FC ((root (((x.c0 + (root x.norm)) * hf)))))]) (by kernel_rfl) rfl rfl rfl (fun L => by kernel_rfl) (fun L => by kernel_rfl) hp4 ⟨
    ob_move (fun _ => rfl) rfl rfl (fun _ => by kernel_rfl),
    ob_not (b := true) (fun _ => rfl) rfl rfl (fun _ => by kernel_rfl),
    trivial⟩ (fun L4 w5 hp5 => ?_)
  refine k7 _ _ ?_
  refine wp_cond_false (by kernel_rfl) ?_
  refine skips ?_
  refine k6 _ _ ?_
  refine wp_seq_k (fun K8 k8 => ?_)
  refine goes (ks := [.det (FV ((root (((x.c0 + (root x.norm)) * hf))))), .det (.tuple #[FV ((finv ((root (((x.c0 + (root x.norm)) * hf)))))), .int .i64 0]), .det (.tuple #[FV ((finv ((root (((x.c0 + (root x.norm)) * hf)))))), .int .i64 0]), .det (FV ((finv ((root (((x.c0 + (root x.norm)) * hf))))))), .det (.int .i64 0), .alloc (FC 0), .store (.new 5) 0 (FC ((finv ((root (((x.c0 + (root x.norm)) * hf))))))) (FC ((finv ((root (((x.c0 + (root x.norm)) * hf))))))), .det (.int .i64 0)]) (T := [0, 1, 3, 7, 7, 0, 47, 127]) (nt := 52) (nh := 4) (H := [((L0.b 0), PC x), ((L0.b 1), PC 0), ((L1.b 6), FC ((root x.norm))), ((L3.b 10), FC ((root (((x.c0 + (root x.norm)) * hf)))))]) (A := fun L => [PV x, .pointer (some ⟨(L0.b 0), 0, none⟩), .pointer (some ⟨(L0.b 1), 0, none⟩), .pointer (some ⟨(L1.b 6), 0, none⟩), .bool true, .pointer (some ⟨(L3.b 10), 0, none⟩), .pointer (some ⟨L.b 5, 0, none⟩), .int .i64 0, .tuple #[FV ((root x.norm)), .bool true], PV x, FV x.norm, .tuple #[FV ((root x.norm)), .bool true], FV ((root x.norm)), .bool true, .bool true, .bool false, undef, .tuple #[FV ((root (((x.c0 + (root x.norm)) * hf)))), .bool true], .pointer (some ⟨(L0.b 0), 0, none⟩), FV x.c0, FV ((root x.norm)), FV ((x.c0 + (root x.norm))), FV hf, FV (((x.c0 + (root x.norm)) * hf)), .tuple #[FV ((root (((x.c0 + (root x.norm)) * hf)))), .bool true], FV ((root (((x.c0 + (root x.norm)) * hf)))), .bool true, .bool true, .bool false, undef, undef, undef, undef, undef, undef, undef, undef, undef, undef, .tuple #[FV ((finv ((root (((x.c0 + (root x.norm)) * hf)))))), .int .i64 0], FV ((root (((x.c0 + (root x.norm)) * hf)))), .tuple #[FV ((finv ((root (((x.c0 + (root x.norm)) * hf)))))), .int .i64 0], FV ((finv ((root (((x.c0 + (root x.norm)) * hf)))))), .int .i64 0, undef, undef, undef, undef, undef, undef, undef, undef]) (H' := fun L => [((L0.b 0), PC x), ((L0.b 1), PC 0), ((L1.b 6), FC ((root x.norm))), ((L3.b 10), FC ((root (((x.c0 + (root x.norm)) * hf))))), (L.b 5, FC ((finv ((root (((x.c0 + (root x.norm)) * hf)))))))]) (by kernel_rfl) rfl rfl rfl (fun L => by kernel_rfl) (fun L => by kernel_rfl) hp5 ⟨
    ob_load (b := (L3.b 10)) (off := 0) (cs := FC ((root (((x.c0 + (root x.norm)) * hf))))) (by kernel_rfl) (fun _ => rfl) rfl rfl (fun _ => by kernel_rfl) (fun _ _ hs => (seen_at (k := 3) hs rfl).cells) Tryd.underlying24 rfl (sizeFC _),
    ob_call (vs := #[FV ((root (((x.c0 + (root x.norm)) * hf))))]) (by kernel_rfl) (by kernel_rfl) (fun _ => rfl) rfl rfl (fun _ => by kernel_rfl) (fun w hb _ => K.inv _ w (K.stay hg hb) hn),
    ob_move (fun _ => rfl) rfl rfl (fun _ => by kernel_rfl),
    ob_extract (vs := #[FV ((finv ((root (((x.c0 + (root x.norm)) * hf)))))), .int .i64 0]) (fun _ => rfl) rfl rfl (fun _ => by kernel_rfl) rfl,
    ob_extract (vs := #[FV ((finv ((root (((x.c0 + (root x.norm)) * hf)))))), .int .i64 0]) (fun _ => rfl) rfl rfl (fun _ => by kernel_rfl) rfl,
    ob_alloc (v := FV 0) (fun _ => rfl) rfl rfl zeroF rfl,
    ob_store (old := FC 0) (fun _ => rfl) rfl rfl (fun _ => by kernel_rfl) (fun _ => by kernel_rfl) rfl (sizeFC _) (FC_one _) (le_len (FC_len _) (FC_len _) (by decide)) (splice_all ((FC_len _).trans (FC_len _).symm)).symm,
    ob_assign (fun _ => rfl) rfl rfl (fun _ => by kernel_rfl),
    trivial⟩ (fun L5 w6 hp6 => ?_)
  refine k8 _ _ ?_
  refine wp_seq_k (fun K9 k9 => ?_)
  refine draws (by kernel_rfl) (ks := [.det (FV ((root (((x.c0 + (root x.norm)) * hf))))), .det (.pointer (some ⟨(L0.b 0), 6, none⟩)), .det (FV x.c1), .det (FV hf), .det (FV ((x.c1 * hf))), .det (FV ((finv ((root (((x.c0 + (root x.norm)) * hf))))))), .det (FV (((x.c1 * hf) * (finv ((root (((x.c0 + (root x.norm)) * hf)))))))), .det (PV (⟨(root (((x.c0 + (root x.norm)) * hf))), ((x.c1 * hf) * (finv ((root (((x.c0 + (root x.norm)) * hf))))))⟩)), .store (.base 1) 0 (PC (⟨(root (((x.c0 + (root x.norm)) * hf))), ((x.c1 * hf) * (finv ((root (((x.c0 + (root x.norm)) * hf))))))⟩)) (PC (⟨(root (((x.c0 + (root x.norm)) * hf))), ((x.c1 * hf) * (finv ((root (((x.c0 + (root x.norm)) * hf))))))⟩))]) (T := [0, 0, 2, 0, 14, 0, 62, 127, 255]) (nt := 52) (nh := 5) (H := [((L0.b 0), PC x), ((L0.b 1), PC 0), ((L1.b 6), FC ((root x.norm))), ((L3.b 10), FC ((root (((x.c0 + (root x.norm)) * hf))))), ((L5.b 5), FC ((finv ((root (((x.c0 + (root x.norm)) * hf)))))))]) (A := fun L => [PV x, .pointer (some ⟨(L0.b 0), 0, none⟩), .pointer (some ⟨(L0.b 1), 0, none⟩), .pointer (some ⟨(L1.b 6), 0, none⟩), .bool true, .pointer (some ⟨(L3.b 10), 0, none⟩), .pointer (some ⟨(L5.b 5), 0, none⟩), .int .i64 0, .tuple #[FV ((root x.norm)), .bool true], PV x, FV x.norm, .tuple #[FV ((root x.norm)), .bool true], FV ((root x.norm)), .bool true, .bool true, .bool false, undef, .tuple #[FV ((root (((x.c0 + (root x.norm)) * hf)))), .bool true], .pointer (some ⟨(L0.b 0), 0, none⟩), FV x.c0, FV ((root x.norm)), FV ((x.c0 + (root x.norm))), FV hf, FV (((x.c0 + (root x.norm)) * hf)), .tuple #[FV ((root (((x.c0 + (root x.norm)) * hf)))), .bool true], FV ((root (((x.c0 + (root x.norm)) * hf)))), .bool true, .bool true, .bool false, undef, undef, undef, undef, undef, undef, undef, undef, undef, undef, .tuple #[FV ((finv ((root (((x.c0 + (root x.norm)) * hf)))))), .int .i64 0], FV ((root (((x.c0 + (root x.norm)) * hf)))), .tuple #[FV ((finv ((root (((x.c0 + (root x.norm)) * hf)))))), .int .i64 0], FV ((finv ((root (((x.c0 + (root x.norm)) * hf)))))), .int .i64 0, FV ((root (((x.c0 + (root x.norm)) * hf)))), .pointer (some ⟨(L0.b 0), 6, none⟩), FV x.c1, FV hf, FV ((x.c1 * hf)), FV ((finv ((root (((x.c0 + (root x.norm)) * hf)))))), FV (((x.c1 * hf) * (finv ((root (((x.c0 + (root x.norm)) * hf))))))), PV (⟨(root (((x.c0 + (root x.norm)) * hf))), ((x.c1 * hf) * (finv ((root (((x.c0 + (root x.norm)) * hf))))))⟩)]) (H' := fun L => [((L0.b 0), PC x), ((L0.b 1), PC (⟨(root (((x.c0 + (root x.norm)) * hf))), ((x.c1 * hf) * (finv ((root (((x.c0 + (root x.norm)) * hf))))))⟩)), ((L1.b 6), FC ((root x.norm))), ((L3.b 10), FC ((root (((x.c0 + (root x.norm)) * hf))))), ((L5.b 5), FC ((finv ((root (((x.c0 + (root x.norm)) * hf)))))))]) (by kernel_rfl) rfl rfl rfl (fun L => by kernel_rfl) (fun L => by kernel_rfl) hp6 ⟨
    ob_load (b := (L3.b 10)) (off := 0) (cs := FC ((root (((x.c0 + (root x.norm)) * hf))))) (by kernel_rfl) (fun _ => rfl) rfl rfl (fun _ => by kernel_rfl) (fun _ _ hs => (seen_at (k := 3) hs rfl).cells) Tryd.underlying24 rfl (sizeFC _),
    ob_index (b := (L0.b 0)) (off := 0) (k := 1) (sz := 6) (n := 2) (fun _ => rfl) rfl rfl (fun _ => by kernel_rfl) (fun _ => by kernel_rfl) Tryd.underlying26 sizeF (by decide) rfl,
    ob_load (b := (L0.b 0)) (off := 6) (cs := FC x.c1) (by kernel_rfl) (fun _ => rfl) rfl rfl (fun _ => by kernel_rfl) (fun _ _ hs => partF2_1 (seen_at (k := 0) hs rfl)) Tryd.underlying24 rfl (sizeFC _),
    ob_load (b := 2) (off := 0) (cs := FC hf) (by kernel_rfl) (fun _ => rfl) rfl rfl (fun _ => by kernel_rfl) (fun _ w hs => hH w (K.stay hg hs.bel)) Tryd.underlying24 rfl (sizeFC _),
    ob_call (vs := #[FV x.c1, FV hf]) (by kernel_rfl) (by kernel_rfl) (fun _ => rfl) rfl rfl (fun _ => by kernel_rfl) (fun w hb _ => K.mul _ _ w (K.stay hg hb)),
    ob_load (b := (L5.b 5)) (off := 0) (cs := FC ((finv ((root (((x.c0 + (root x.norm)) * hf))))))) (by kernel_rfl) (fun _ => rfl) rfl rfl (fun _ => by kernel_rfl) (fun _ _ hs => (seen_at (k := 4) hs rfl).cells) Tryd.underlying24 rfl (sizeFC _),
    ob_call (vs := #[FV ((x.c1 * hf)), FV ((finv ((root (((x.c0 + (root x.norm)) * hf))))))]) (by kernel_rfl) (by kernel_rfl) (fun _ => rfl) rfl rfl (fun _ => by kernel_rfl) (fun w hb _ => K.mul _ _ w (K.stay hg hb)),
    ob_build (qs := #[(0, FV ((root (((x.c0 + (root x.norm)) * hf))))), (1, FV (((x.c1 * hf) * (finv ((root (((x.c0 + (root x.norm)) * hf))))))))]) (fun _ => rfl) rfl rfl (fun _ => by kernel_rfl) (buildP _ _),
    ob_store (old := PC 0) (fun _ => rfl) rfl rfl (fun _ => by kernel_rfl) (fun _ => by kernel_rfl) rfl (sizePC _) (PC_one _) (le_len (PC_len _) (PC_len _) (by decide)) (splice_all ((PC_len _).trans (PC_len _).symm)).symm,
    trivial⟩ (fun L6 w7 hp7 => ?_)
  refine k9 _ _ ?_
  refine wp_ret ?_
  exact bodyPost_ret (v := PV (⟨(root (((x.c0 + (root x.norm)) * hf))), ((x.c1 * hf) * (finv ((root (((x.c0 + (root x.norm)) * hf))))))⟩)) (res_c rfl (by kernel_rfl) (hp7.bound 1 rfl).2 Tryd.underlying26 rfl (sizePC _)) rfl ⟨rfl, hp7.bel⟩
set_option maxHeartbeats 4000000 in
theorem fp2cross2 {G : World → Prop} (K : FpK G) (x : F2) (w : World) (hg : G w) (hH : ∀ w, G w → w.rangeAt 2 0 (FC hf)) (hq : isq x.norm = true) (ht : isq ((x.c0 + (root x.norm)) * hf) = false) (hn : root ((x.c0 - (root x.norm)) * hf) ≠ 0) : Calls Tryd.prog 69 #[PV x] w (Ret (PV ⟨root ((x.c0 - (root x.norm)) * hf), x.c1 * hf * finv (root ((x.c0 - (root x.norm)) * hf))⟩) w) := by
  have hp0 := Heap.start w
  go_enter Tryd.func69, Tryd.ntmps69
  refine wp_seq_k (fun K1 k1 => ?_)
  refine goes (ks := [.alloc (PC x), .alloc (PC 0)]) (T := [0, 0]) (nt := 52) (nh := 0) (H := []) (A := fun L => [PV x, .pointer (some ⟨L.b 0, 0, none⟩), .pointer (some ⟨L.b 1, 0, none⟩), undef, undef, undef, undef, undef, undef, undef, undef, undef, undef, undef, undef, undef, undef, undef, undef, undef, undef, undef, undef, undef, undef, undef, undef, undef, undef, undef, undef, undef, undef, undef, undef, undef, undef, undef, undef, undef, undef, undef, undef, undef, undef, undef, undef, undef, undef, undef, undef, undef]) (H' := fun L => [(L.b 0, PC x), (L.b 1, PC 0)]) (by kernel_rfl) rfl rfl rfl (fun L => by kernel_rfl) (fun L => by kernel_rfl) hp0 ⟨
    ob_box (v := PV x) (fun _ => rfl) rfl rfl (fun _ => by kernel_rfl) rfl,
    ob_alloc (v := PV 0) (fun _ => rfl) rfl rfl zeroP rfl,
    trivial⟩ (fun L0 w1 hp1 => ?_)
  refine k1 _ _ ?_
  refine wp_seq_k (fun K2 k2 => ?_)
  refine goes (ks := [.det (PV x), .det (FV x.norm), .det (.tuple #[FV ((root x.norm)), .bool true]), .det (.tuple #[FV ((root x.norm)), .bool true]), .det (FV ((root x.norm))), .det (.bool true), .alloc (FC 0), .store (.new 6) 0 (FC ((root x.norm))) (FC ((root x.norm))), .det (.bool true)]) (T := [0, 1, 3, 7, 15, 15, 0, 95, 255]) (nt := 52) (nh := 2) (H := [((L0.b 0), PC x), ((L0.b 1), PC 0)]) (A := fun L => [PV x, .pointer (some ⟨(L0.b 0), 0, none⟩), .pointer (some ⟨(L0.b 1), 0, none⟩), .pointer (some ⟨L.b 6, 0, none⟩), .bool true, undef, undef, undef, .tuple #[FV ((root x.norm)), .bool true], PV x, FV x.norm, .tuple #[FV ((root x.norm)), .bool true], FV ((root x.norm)), .bool true, undef, undef, undef, undef, undef, undef, undef, undef, undef, undef, undef, undef, undef, undef, undef, undef, undef, undef, undef, undef, undef, undef, undef, undef, undef, undef, undef, undef, undef, undef, undef, undef, undef, undef, undef, undef, undef, undef]) (H' := fun L => [((L0.b 0), PC x), ((L0.b 1), PC 0), (L.b 6, FC ((root x.norm)))]) (by kernel_rfl) rfl rfl rfl (fun L => by kernel_rfl) (fun L => by kernel_rfl) hp1 ⟨
    ob_load (b := (L0.b 0)) (off := 0) (cs := PC x) (by kernel_rfl) (fun _ => rfl) rfl rfl (fun _ => by kernel_rfl) (fun _ _ hs => (seen_at (k := 0) hs rfl).cells) Tryd.underlying26 rfl (sizePC _),
    ob_call (vs := #[PV x]) (by kernel_rfl) (by kernel_rfl) (fun _ => rfl) rfl rfl (fun _ => by kernel_rfl) (fun w hb _ => fp2norm K _ w (K.stay hg hb)),
    ob_call (vs := #[FV x.norm]) (by kernel_rfl) (by kernel_rfl) (fun _ => rfl) rfl rfl (fun _ => by kernel_rfl) (fun w hb _ => by have h := K.sqrt x.norm w (K.stay hg hb); rw [hq] at h; exact h),
    ob_move (fun _ => rfl) rfl rfl (fun _ => by kernel_rfl),
    ob_extract (vs := #[FV ((root x.norm)), .bool true]) (fun _ => rfl) rfl rfl (fun _ => by kernel_rfl) rfl,
    ob_extract (vs := #[FV ((root x.norm)), .bool true]) (fun _ => rfl) rfl rfl (fun _ => by kernel_rfl) rfl,
    ob_alloc (v := FV 0) (fun _ => rfl) rfl rfl zeroF rfl,
    ob_store (old := FC 0) (fun _ => rfl) rfl rfl (fun _ => by kernel_rfl) (fun _ => by kernel_rfl) rfl (sizeFC _) (FC_one _) (le_len (FC_len _) (FC_len _) (by decide)) (splice_all ((FC_len _).trans (FC_len _).symm)).symm,
    ob_assign (fun _ => rfl) rfl rfl (fun _ => by kernel_rfl),
    trivial⟩ (fun L1 w2 hp2 => ?_)
  refine k2 _ _ ?_
  refine wp_seq_k (fun K3 k3 => ?_)
  refine wp_seq_k (fun K4 k4 => ?_)
  refine goes (ks := [.det (.bool true), .det (.bool false)]) (T := [0, 1]) (nt := 52) (nh := 3) (H := [((L0.b 0), PC x), ((L0.b 1), PC 0), ((L1.b 6), FC ((root x.norm)))]) (A := fun L => [PV x, .pointer (some ⟨(L0.b 0), 0, none⟩), .pointer (some ⟨(L0.b 1), 0, none⟩), .pointer (some ⟨(L1.b 6), 0, none⟩), .bool true, undef, undef, undef, .tuple #[FV ((root x.norm)), .bool true], PV x, FV x.norm, .tuple #[FV ((root x.norm)), .bool true], FV ((root x.norm)), .bool true, .bool true, .bool false, undef, undef, undef, undef, undef, undef, undef, undef, undef, undef, undef, undef, undef, undef, undef, undef, undef, undef, undef, undef, undef, undef, undef, undef, undef, undef, undef, undef, undef, undef, undef, undef, undef, undef, undef, undef]) (H' := fun L => [((L0.b 0), PC x), ((L0.b 1), PC 0), ((L1.b 6), FC ((root x.norm)))]) (by kernel_rfl) rfl rfl rfl (fun L => by kernel_rfl) (fun L => by kernel_rfl) hp2 ⟨
    ob_move (fun _ => rfl) rfl rfl (fun _ => by kernel_rfl),
    ob_not (b := true) (fun _ => rfl) rfl rfl (fun _ => by kernel_rfl),
    trivial⟩ (fun L2 w3 hp3 => ?_)
  refine k4 _ _ ?_
  refine wp_cond_false (by kernel_rfl) ?_
  refine skips ?_
  refine k3 _ _ ?_
  refine wp_seq_k (fun K5 k5 => ?_)
  refine draws (by kernel_rfl) (ks := [.det (.pointer (some ⟨(L0.b 0), 0, none⟩)), .det (FV x.c0), .det (FV ((root x.norm))), .det (FV ((x.c0 + (root x.norm)))), .det (FV hf), .det (FV (((x.c0 + (root x.norm)) * hf))), .det (.tuple #[FV ((root (((x.c0 + (root x.norm)) * hf)))), .bool false]), .det (.tuple #[FV ((root (((x.c0 + (root x.norm)) * hf)))), .bool false]), .det (FV ((root (((x.c0 + (root x.norm)) * hf))))), .det (.bool false), .alloc (FC 0), .store (.new 10) 0 (FC ((root (((x.c0 + (root x.norm)) * hf))))) (FC ((root (((x.c0 + (root x.norm)) * hf))))), .det (.bool false)]) (T := [0, 1, 0, 7, 0, 31, 63, 127, 255, 255, 0, 1535, 4095]) (nt := 52) (nh := 3) (H := [((L0.b 0), PC x), ((L0.b 1), PC 0), ((L1.b 6), FC ((root x.norm)))]) (A := fun L => [PV x, .pointer (some ⟨(L0.b 0), 0, none⟩), .pointer (some ⟨(L0.b 1), 0, none⟩), .pointer (some ⟨(L1.b 6), 0, none⟩), .bool false, .pointer (some ⟨L.b 10, 0, none⟩), undef, undef, .tuple #[FV ((root x.norm)), .bool true], PV x, FV x.norm, .tuple #[FV ((root x.norm)), .bool true], FV ((root x.norm)), .bool true, .bool true, .bool false, undef, .tuple #[FV ((root (((x.c0 + (root x.norm)) * hf)))), .bool false], .pointer (some ⟨(L0.b 0), 0, none⟩), FV x.c0, FV ((root x.norm)), FV ((x.c0 + (root x.norm))), FV hf, FV (((x.c0 + (root x.norm)) * hf)), .tuple #[FV ((root (((x.c0 + (root x.norm)) * hf)))), .bool false], FV ((root (((x.c0 + (root x.norm)) * hf)))), .bool false, undef, undef, undef, undef, undef, undef, undef, undef, undef, undef, undef, undef, undef, undef, undef, undef, undef, undef, undef, undef, undef, undef, undef, undef, undef]) (H' := fun L => [((L0.b 0), PC x), ((L0.b 1), PC 0), ((L1.b 6), FC ((root x.norm))), (L.b 10, FC ((root (((x.c0 + (root x.norm)) * hf)))))]) (by kernel_rfl) rfl rfl rfl (fun L => by kernel_rfl) (fun L => by kernel_rfl) hp3 ⟨
    ob_index (b := (L0.b 0)) (off := 0) (k := 0) (sz := 6) (n := 2) (fun _ => rfl) rfl rfl (fun _ => by kernel_rfl) (fun _ => by kernel_rfl) Tryd.underlying26 sizeF (by decide) rfl,
    ob_load (b := (L0.b 0)) (off := 0) (cs := FC x.c0) (by kernel_rfl) (fun _ => rfl) rfl rfl (fun _ => by kernel_rfl) (fun _ _ hs => partF2_0 (seen_at (k := 0) hs rfl)) Tryd.underlying24 rfl (sizeFC _),
    ob_load (b := (L1.b 6)) (off := 0) (cs := FC ((root x.norm))) (by kernel_rfl) (fun _ => rfl) rfl rfl (fun _ => by kernel_rfl) (fun _ _ hs => (seen_at (k := 2) hs rfl).cells) Tryd.underlying24 rfl (sizeFC _),
    ob_call (vs := #[FV x.c0, FV ((root x.norm))]) (by kernel_rfl) (by kernel_rfl) (fun _ => rfl) rfl rfl (fun _ => by kernel_rfl) (fun w hb _ => K.add _ _ w (K.stay hg hb)),
    ob_load (b := 2) (off := 0) (cs := FC hf) (by kernel_rfl) (fun _ => rfl) rfl rfl (fun _ => by kernel_rfl) (fun _ w hs => hH w (K.stay hg hs.bel)) Tryd.underlying24 rfl (sizeFC _),
    ob_call (vs := #[FV ((x.c0 + (root x.norm))), FV hf]) (by kernel_rfl) (by kernel_rfl) (fun _ => rfl) rfl rfl (fun _ => by kernel_rfl) (fun w hb _ => K.mul _ _ w (K.stay hg hb)),
    ob_call (vs := #[FV (((x.c0 + (root x.norm)) * hf))]) (by kernel_rfl) (by kernel_rfl) (fun _ => rfl) rfl rfl (fun _ => by kernel_rfl) (fun w hb _ => by have h := K.sqrt (((x.c0 + (root x.norm)) * hf)) w (K.stay hg hb); rw [ht] at h; exact h),
    ob_move (fun _ => rfl) rfl rfl (fun _ => by kernel_rfl),
    ob_extract (vs := #[FV ((root (((x.c0 + (root x.norm)) * hf)))), .bool false]) (fun _ => rfl) rfl rfl (fun _ => by kernel_rfl) rfl,
    ob_extract (vs := #[FV ((root (((x.c0 + (root x.norm)) * hf)))), .bool false]) (fun _ => rfl) rfl rfl (fun _ => by kernel_rfl) rfl,
    ob_alloc (v := FV 0) (fun _ => rfl) rfl rfl zeroF rfl,
    ob_store (old := FC 0) (fun _ => rfl) rfl rfl (fun _ => by kernel_rfl) (fun _ => by kernel_rfl) rfl (sizeFC _) (FC_one _) (le_len (FC_len _) (FC_len _) (by decide)) (splice_all ((FC_len _).trans (FC_len _).symm)).symm,
    ob_assign (fun _ => rfl) rfl rfl (fun _ => by kernel_rfl),
    trivial⟩ (fun L3 w4 hp4 => ?_)
  refine k5 _ _ ?_
  refine wp_seq_k (fun K6 k6 => ?_)
  refine wp_seq_k (fun K7 k7 => ?_)
  refine goes (ks := [.det (.bool false), .det (.bool true)]) (T := [0, 1]) (nt := 52) (nh := 4) (H := [((L0.b 0), PC x), ((L0.b 1), PC 0), ((L1.b 6), FC ((root x.norm))), ((L3.b 10), FC ((root (((x.c0 + (root x.norm)) * hf)))))]) (A := fun L => [PV x, .pointer (some ⟨(L0.b 0), 0, none⟩), .pointer (some ⟨(L0.b 1), 0, none⟩), .pointer (some ⟨(L1.b 6), 0, none⟩), .bool false, .pointer (some ⟨(L3.b 10), 0, none⟩), undef, undef, .tuple #[FV ((root x.norm)), .bool true], PV x, FV x.norm, .tuple #[FV ((root x.norm)), .bool true], FV ((root x.norm)), .bool true, .bool true, .bool false, undef, .tuple #[FV ((root (((x.c0 + (root x.norm)) * hf)))), .bool false], .pointer (some ⟨(L0.b 0), 0, none⟩), FV x.c0, FV ((root x.norm)), FV ((x.c0 + (root x.norm))), FV hf, FV (((x.c0 + (root x.norm)) * hf)), .tuple #[FV ((root (((x.c0 + (root x.norm)) * hf)))), .bool false], FV ((root (((x.c0 + (root x.norm)) * hf)))), .bool false, .bool false, .bool true, undef, undef, undef, undef, undef, undef, undef, undef, undef, undef, undef, undef, undef, undef, undef, undef, undef, undef, undef, undef, undef, undef, undef]) (H' := fun L => [((L0.b 0), PC x), ((L0.b 1), PC 0), ((L1.b 6), FC ((root x.norm))), ((L3.b 10), FC ((root (((x.c0 + (root x.norm)) * hf)))))]) (by kernel_rfl) rfl rfl rfl (fun L => by kernel_rfl) (fun L => by kernel_rfl) hp4 ⟨
    ob_move (fun _ => rfl) rfl rfl (fun _ => by kernel_rfl),
    ob_not (b := false) (fun _ => rfl) rfl rfl (fun _ => by kernel_rfl),
    trivial⟩ (fun L4 w5 hp5 => ?_)
  refine k7 _ _ ?_
  refine wp_cond_true (by kernel_rfl) ?_
  refine draws (by kernel_rfl) (ks := [.det (.pointer (some ⟨(L0.b 0), 0, none⟩)), .det (FV x.c0), .det (FV ((root x.norm))), .det (FV ((x.c0 - (root x.norm)))), .det (FV hf), .det (FV (((x.c0 - (root x.norm)) * hf))), .det (.tuple #[FV ((root (((x.c0 - (root x.norm)) * hf)))), .bool (isq (((x.c0 - (root x.norm)) * hf)))]), .det (.tuple #[FV ((root (((x.c0 - (root x.norm)) * hf)))), .bool (isq (((x.c0 - (root x.norm)) * hf)))]), .det (FV ((root (((x.c0 - (root x.norm)) * hf))))), .det (.bool (isq (((x.c0 - (root x.norm)) * hf)))), .store (.base 3) 0 (FC ((root (((x.c0 - (root x.norm)) * hf))))) (FC ((root (((x.c0 - (root x.norm)) * hf)))))]) (T := [0, 1, 0, 7, 0, 31, 63, 127, 255, 255, 511]) (nt := 52) (nh := 4) (H := [((L0.b 0), PC x), ((L0.b 1), PC 0), ((L1.b 6), FC ((root x.norm))), ((L3.b 10), FC ((root (((x.c0 + (root x.norm)) * hf)))))]) (A := fun L => [PV x, .pointer (some ⟨(L0.b 0), 0, none⟩), .pointer (some ⟨(L0.b 1), 0, none⟩), .pointer (some ⟨(L1.b 6), 0, none⟩), .bool false, .pointer (some ⟨(L3.b 10), 0, none⟩), undef, undef, .tuple #[FV ((root x.norm)), .bool true], PV x, FV x.norm, .tuple #[FV ((root x.norm)), .bool true], FV ((root x.norm)), .bool true, .bool true, .bool false, undef, .tuple #[FV ((root (((x.c0 + (root x.norm)) * hf)))), .bool false], .pointer (some ⟨(L0.b 0), 0, none⟩), FV x.c0, FV ((root x.norm)), FV ((x.c0 + (root x.norm))), FV hf, FV (((x.c0 + (root x.norm)) * hf)), .tuple #[FV ((root (((x.c0 + (root x.norm)) * hf)))), .bool false], FV ((root (((x.c0 + (root x.norm)) * hf)))), .bool false, .bool false, .bool true, .tuple #[FV ((root (((x.c0 - (root x.norm)) * hf)))), .bool (isq (((x.c0 - (root x.norm)) * hf)))], .pointer (some ⟨(L0.b 0), 0, none⟩), FV x.c0, FV ((root x.norm)), FV ((x.c0 - (root x.norm))), FV hf, FV (((x.c0 - (root x.norm)) * hf)), .tuple #[FV ((root (((x.c0 - (root x.norm)) * hf)))), .bool (isq (((x.c0 - (root x.norm)) * hf)))], FV ((root (((x.c0 - (root x.norm)) * hf)))), .bool (isq (((x.c0 - (root x.norm)) * hf))), undef, undef, undef, undef, undef, undef, undef, undef, undef, undef, undef, undef, undef]) (H' := fun L => [((L0.b 0), PC x), ((L0.b 1), PC 0), ((L1.b 6), FC ((root x.norm))), ((L3.b 10), FC ((root (((x.c0 - (root x.norm)) * hf)))))]) (by kernel_rfl) rfl rfl rfl (fun L => by kernel_rfl) (fun L => by kernel_rfl) hp5 ⟨
    ob_index (b := (L0.b 0)) (off := 0) (k := 0) (sz := 6) (n := 2) (fun _ => rfl) rfl rfl (fun _ => by kernel_rfl) (fun _ => by kernel_rfl) Tryd.underlying26 sizeF (by decide) rfl,
    ob_load (b := (L0.b 0)) (off := 0) (cs := FC x.c0) (by kernel_rfl) (fun _ => rfl) rfl rfl (fun _ => by kernel_rfl) (fun _ _ hs => partF2_0 (seen_at (k := 0) hs rfl)) Tryd.underlying24 rfl (sizeFC _),
    ob_load (b := (L1.b 6)) (off := 0) (cs := FC ((root x.norm))) (by kernel_rfl) (fun _ => rfl) rfl rfl (fun _ => by kernel_rfl) (fun _ _ hs => (seen_at (k := 2) hs rfl).cells) Tryd.underlying24 rfl (sizeFC _),
    ob_call (vs := #[FV x.c0, FV ((root x.norm))]) (by kernel_rfl) (by kernel_rfl) (fun _ => rfl) rfl rfl (fun _ => by kernel_rfl) (fun w hb _ => K.sub _ _ w (K.stay hg hb)),
    ob_load (b := 2) (off := 0) (cs := FC hf) (by kernel_rfl) (fun _ => rfl) rfl rfl (fun _ => by kernel_rfl) (fun _ w hs => hH w (K.stay hg hs.bel)) Tryd.underlying24 rfl (sizeFC _),
    ob_call (vs := #[FV ((x.c0 - (root x.norm))), FV hf]) (by kernel_rfl) (by kernel_rfl) (fun _ => rfl) rfl rfl (fun _ => by kernel_rfl) (fun w hb _ => K.mul _ _ w (K.stay hg hb)),
    ob_call (vs := #[FV (((x.c0 - (root x.norm)) * hf))]) (by kernel_rfl) (by kernel_rfl) (fun _ => rfl) rfl rfl (fun _ => by kernel_rfl) (fun w hb _ => K.sqrt _ w (K.stay hg hb)),
    ob_move (fun _ => rfl) rfl rfl (fun _ => by kernel_rfl),
    ob_extract (vs := #[FV ((root (((x.c0 - (root x.norm)) * hf)))), .bool (isq (((x.c0 - (root x.norm)) * hf)))]) (fun _ => rfl) rfl rfl (fun _ => by kernel_rfl) rfl,
    ob_extract (vs := #[FV ((root (((x.c0 - (root x.norm)) * hf)))), .bool (isq (((x.c0 - (root x.norm)) * hf)))]) (fun _ => rfl) rfl rfl (fun _ => by kernel_rfl) rfl,
    ob_store (old := FC ((root (((x.c0 + (root x.norm)) * hf))))) (fun _ => rfl) rfl rfl (fun _ => by kernel_rfl) (fun _ => by kernel_rfl) rfl (sizeFC _) (FC_one _) (le_len (FC_len _) (FC_len _) (by decide)) (splice_all ((FC_len _).trans (FC_len _).symm)).symm,
    trivial⟩ (fun L5 w6 hp6 => ?_)
  refine k6 _ _ ?_
  refine wp_seq_k (fun K8 k8 => ?_)
  refine goes (ks := [.det (FV ((root (((x.c0 - (root x.norm)) * hf))))), .det (.tuple #[FV ((finv ((root (((x.c0 - (root x.norm)) * hf)))))), .int .i64 0]), .det (.tuple #[FV ((finv ((root (((x.c0 - (root x.norm)) * hf)))))), .int .i64 0]), .det (FV ((finv ((root (((x.c0 - (root x.norm)) * hf))))))), .det (.int .i64 0), .alloc (FC 0), .store (.new 5) 0 (FC ((finv ((root (((x.c0 - (root x.norm)) * hf))))))) (FC ((finv ((root (((x.c0 - (root x.norm)) * hf))))))), .det (.int .i64 0)]) (T := [0, 1, 3, 7, 7, 0, 47, 127]) (nt := 52) (nh := 4) (H := [((L0.b 0), PC x), ((L0.b 1), PC 0), ((L1.b 6), FC ((root x.norm))), ((L3.b 10), FC ((root (((x.c0 - (root x.norm)) * hf)))))]) (A := fun L => [PV x, .pointer (some ⟨(L0.b 0), 0, none⟩), .pointer (some ⟨(L0.b 1), 0, none⟩), .pointer (some ⟨(L1.b 6), 0, none⟩), .bool false, .pointer (some ⟨(L3.b 10), 0, none⟩), .pointer (some ⟨L.b 5, 0, none⟩), .int .i64 0, .tuple #[FV ((root x.norm)), .bool true], PV x, FV x.norm, .tuple #[FV ((root x.norm)), .bool true], FV ((root x.norm)), .bool true, .bool true, .bool false, undef, .tuple #[FV ((root (((x.c0 + (root x.norm)) * hf)))), .bool false], .pointer (some ⟨(L0.b 0), 0, none⟩), FV x.c0, FV ((root x.norm)), FV ((x.c0 + (root x.norm))), FV hf, FV (((x.c0 + (root x.norm)) * hf)), .tuple #[FV ((root (((x.c0 + (root x.norm)) * hf)))), .bool false], FV ((root (((x.c0 + (root x.norm)) * hf)))), .bool false, .bool false, .bool true, .tuple #[FV ((root (((x.c0 - (root x.norm)) * hf)))), .bool (isq (((x.c0 - (root x.norm)) * hf)))], .pointer (some ⟨(L0.b 0), 0, none⟩), FV x.c0, FV ((root x.norm)), FV ((x.c0 - (root x.norm))), FV hf, FV (((x.c0 - (root x.norm)) * hf)), .tuple #[FV ((root (((x.c0 - (root x.norm)) * hf)))), .bool (isq (((x.c0 - (root x.norm)) * hf)))], FV ((root (((x.c0 - (root x.norm)) * hf)))), .bool (isq (((x.c0 - (root x.norm)) * hf))), .tuple #[FV ((finv ((root (((x.c0 - (root x.norm)) * hf)))))), .int .i64 0], FV ((root (((x.c0 - (root x.norm)) * hf)))), .tuple #[FV ((finv ((root (((x.c0 - (root x.norm)) * hf)))))), .int .i64 0], FV ((finv ((root (((x.c0 - (root x.norm)) * hf)))))), .int .i64 0, undef, undef, undef, undef, undef, undef, undef, undef]) (H' := fun L => [((L0.b 0), PC x), ((L0.b 1), PC 0), ((L1.b 6), FC ((root x.norm))), ((L3.b 10), FC ((root (((x.c0 - (root x.norm)) * hf))))), (L.b 5, FC ((finv ((root (((x.c0 - (root x.norm)) * hf)))))))]) (by kernel_rfl) rfl rfl rfl (fun L => by kernel_rfl) (fun L => by kernel_rfl) hp6 ⟨
    ob_load (b := (L3.b 10)) (off := 0) (cs := FC ((root (((x.c0 - (root x.norm)) * hf))))) (by kernel_rfl) (fun _ => rfl) rfl rfl (fun _ => by kernel_rfl) (fun _ _ hs => (seen_at (k := 3) hs rfl).cells) Tryd.underlying24 rfl (sizeFC _),
    ob_call (vs := #[FV ((root (((x.c0 - (root x.norm)) * hf))))]) (by kernel_rfl) (by kernel_rfl) (fun _ => rfl) rfl rfl (fun _ => by kernel_rfl) (fun w hb _ => K.inv _ w (K.stay hg hb) hn),
    ob_move (fun _ => rfl) rfl rfl (fun _ => by kernel_rfl),
    ob_extract (vs := #[FV ((finv ((root (((x.c0 - (root x.norm)) * hf)))))), .int .i64 0]) (fun _ => rfl) rfl rfl (fun _ => by kernel_rfl) rfl,
    ob_extract (vs := #[FV ((finv ((root (((x.c0 - (root x.norm)) * hf)))))), .int .i64 0]) (fun _ => rfl) rfl rfl (fun _ => by kernel_rfl) rfl,
    ob_alloc (v := FV 0) (fun _ => rfl) rfl rfl zeroF rfl,
    ob_store (old := FC 0) (fun _ => rfl) rfl rfl (fun _ => by kernel_rfl) (fun _ => by kernel_rfl) rfl (sizeFC _) (FC_one _) (le_len (FC_len _) (FC_len _) (by decide)) (splice_all ((FC_len _).trans (FC_len _).symm)).symm,
    ob_assign (fun _ => rfl) rfl rfl (fun _ => by kernel_rfl),
    trivial⟩ (fun L6 w7 hp7 => ?_)
  refine k8 _ _ ?_
  refine wp_seq_k (fun K9 k9 => ?_)
  refine draws (by kernel_rfl) (ks := [.det (FV ((root (((x.c0 - (root x.norm)) * hf))))), .det (.pointer (some ⟨(L0.b 0), 6, none⟩)), .det (FV x.c1), .det (FV hf), .det (FV ((x.c1 * hf))), .det (FV ((finv ((root (((x.c0 - (root x.norm)) * hf))))))), .det (FV (((x.c1 * hf) * (finv ((root (((x.c0 - (root x.norm)) * hf)))))))), .det (PV (⟨(root (((x.c0 - (root x.norm)) * hf))), ((x.c1 * hf) * (finv ((root (((x.c0 - (root x.norm)) * hf))))))⟩)), .store (.base 1) 0 (PC (⟨(root (((x.c0 - (root x.norm)) * hf))), ((x.c1 * hf) * (finv ((root (((x.c0 - (root x.norm)) * hf))))))⟩)) (PC (⟨(root (((x.c0 - (root x.norm)) * hf))), ((x.c1 * hf) * (finv ((root (((x.c0 - (root x.norm)) * hf))))))⟩))]) (T := [0, 0, 2, 0, 14, 0, 62, 127, 255]) (nt := 52) (nh := 5) (H := [((L0.b 0), PC x), ((L0.b 1), PC 0), ((L1.b 6), FC ((root x.norm))), ((L3.b 10), FC ((root (((x.c0 - (root x.norm)) * hf))))), ((L6.b 5), FC ((finv ((root (((x.c0 - (root x.norm)) * hf)))))))]) (A := fun L => [PV x, .pointer (some ⟨(L0.b 0), 0, none⟩), .pointer (some ⟨(L0.b 1), 0, none⟩), .pointer (some ⟨(L1.b 6), 0, none⟩), .bool false, .pointer (some ⟨(L3.b 10), 0, none⟩), .pointer (some ⟨(L6.b 5), 0, none⟩), .int .i64 0, .tuple #[FV ((root x.norm)), .bool true], PV x, FV x.norm, .tuple #[FV ((root x.norm)), .bool true], FV ((root x.norm)), .bool true, .bool true, .bool false, undef, .tuple #[FV ((root (((x.c0 + (root x.norm)) * hf)))), .bool false], .pointer (some ⟨(L0.b 0), 0, none⟩), FV x.c0, FV ((root x.norm)), FV ((x.c0 + (root x.norm))), FV hf, FV (((x.c0 + (root x.norm)) * hf)), .tuple #[FV ((root (((x.c0 + (root x.norm)) * hf)))), .bool false], FV ((root (((x.c0 + (root x.norm)) * hf)))), .bool false, .bool false, .bool true, .tuple #[FV ((root (((x.c0 - (root x.norm)) * hf)))), .bool (isq (((x.c0 - (root x.norm)) * hf)))], .pointer (some ⟨(L0.b 0), 0, none⟩), FV x.c0, FV ((root x.norm)), FV ((x.c0 - (root x.norm))), FV hf, FV (((x.c0 - (root x.norm)) * hf)), .tuple #[FV ((root (((x.c0 - (root x.norm)) * hf)))), .bool (isq (((x.c0 - (root x.norm)) * hf)))], FV ((root (((x.c0 - (root x.norm)) * hf)))), .bool (isq (((x.c0 - (root x.norm)) * hf))), .tuple #[FV ((finv ((root (((x.c0 - (root x.norm)) * hf)))))), .int .i64 0], FV ((root (((x.c0 - (root x.norm)) * hf)))), .tuple #[FV ((finv ((root (((x.c0 - (root x.norm)) * hf)))))), .int .i64 0], FV ((finv ((root (((x.c0 - (root x.norm)) * hf)))))), .int .i64 0, FV ((root (((x.c0 - (root x.norm)) * hf)))), .pointer (some ⟨(L0.b 0), 6, none⟩), FV x.c1, FV hf, FV ((x.c1 * hf)), FV ((finv ((root (((x.c0 - (root x.norm)) * hf)))))), FV (((x.c1 * hf) * (finv ((root (((x.c0 - (root x.norm)) * hf))))))), PV (⟨(root (((x.c0 - (root x.norm)) * hf))), ((x.c1 * hf) * (finv ((root (((x.c0 - (root x.norm)) * hf))))))⟩)]) (H' := fun L => [((L0.b 0), PC x), ((L0.b 1), PC (⟨(root (((x.c0 - (root x.norm)) * hf))), ((x.c1 * hf) * (finv ((root (((x.c0 - (root x.norm)) * hf))))))⟩)), ((L1.b 6), FC ((root x.norm))), ((L3.b 10), FC ((root (((x.c0 - (root x.norm)) * hf))))), ((L6.b 5), FC ((finv ((root (((x.c0 - (root x.norm)) * hf)))))))]) (by kernel_rfl) rfl rfl rfl (fun L => by kernel_rfl) (fun L => by kernel_rfl) hp7 ⟨
    ob_load (b := (L3.b 10)) (off := 0) (cs := FC ((root (((x.c0 - (root x.norm)) * hf))))) (by kernel_rfl) (fun _ => rfl) rfl rfl (fun _ => by kernel_rfl) (fun _ _ hs => (seen_at (k := 3) hs rfl).cells) Tryd.underlying24 rfl (sizeFC _),
    ob_index (b := (L0.b 0)) (off := 0) (k := 1) (sz := 6) (n := 2) (fun _ => rfl) rfl rfl (fun _ => by kernel_rfl) (fun _ => by kernel_rfl) Tryd.underlying26 sizeF (by decide) rfl,
    ob_load (b := (L0.b 0)) (off := 6) (cs := FC x.c1) (by kernel_rfl) (fun _ => rfl) rfl rfl (fun _ => by kernel_rfl) (fun _ _ hs => partF2_1 (seen_at (k := 0) hs rfl)) Tryd.underlying24 rfl (sizeFC _),
    ob_load (b := 2) (off := 0) (cs := FC hf) (by kernel_rfl) (fun _ => rfl) rfl rfl (fun _ => by kernel_rfl) (fun _ w hs => hH w (K.stay hg hs.bel)) Tryd.underlying24 rfl (sizeFC _),
    ob_call (vs := #[FV x.c1, FV hf]) (by kernel_rfl) (by kernel_rfl) (fun _ => rfl) rfl rfl (fun _ => by kernel_rfl) (fun w hb _ => K.mul _ _ w (K.stay hg hb)),
    ob_load (b := (L6.b 5)) (off := 0) (cs := FC ((finv ((root (((x.c0 - (root x.norm)) * hf))))))) (by kernel_rfl) (fun _ => rfl) rfl rfl (fun _ => by kernel_rfl) (fun _ _ hs => (seen_at (k := 4) hs rfl).cells) Tryd.underlying24 rfl (sizeFC _),
    ob_call (vs := #[FV ((x.c1 * hf)), FV ((finv ((root (((x.c0 - (root x.norm)) * hf))))))]) (by kernel_rfl) (by kernel_rfl) (fun _ => rfl) rfl rfl (fun _ => by kernel_rfl) (fun w hb _ => K.mul _ _ w (K.stay hg hb)),
    ob_build (qs := #[(0, FV ((root (((x.c0 - (root x.norm)) * hf))))), (1, FV (((x.c1 * hf) * (finv ((root (((x.c0 - (root x.norm)) * hf))))))))]) (fun _ => rfl) rfl rfl (fun _ => by kernel_rfl) (buildP _ _),
    ob_store (old := PC 0) (fun _ => rfl) rfl rfl (fun _ => by kernel_rfl) (fun _ => by kernel_rfl) rfl (sizePC _) (PC_one _) (le_len (PC_len _) (PC_len _) (by decide)) (splice_all ((PC_len _).trans (PC_len _).symm)).symm,
    trivial⟩ (fun L7 w8 hp8 => ?_)
  refine k9 _ _ ?_
  refine wp_ret ?_
  exact bodyPost_ret (v := PV (⟨(root (((x.c0 - (root x.norm)) * hf))), ((x.c1 * hf) * (finv ((root (((x.c0 - (root x.norm)) * hf))))))⟩)) (res_c rfl (by kernel_rfl) (hp8.bound 1 rfl).2 Tryd.underlying26 rfl (sizePC _)) rfl ⟨rfl, hp8.bel⟩
end Go.Proofs.YtgoghcmnnhglhaaDoor.fpn

/- Package fp2: the root that is told. -/
namespace Go.Proofs.YtgoghcmnnhglhaaDoor.fpn
open Go.RowKit Pl
set_option linter.unusedVariables false
set_option linter.unusedSimpArgs false
set_option maxRecDepth 4000

/-- What anyRoot tells. -/
noncomputable def any2 (x : F2) : F2 :=
  if x.c1 = 0 then (if isq x.c0 = true then ⟨root x.c0, 0⟩ else ⟨0, root (-x.c0)⟩)
  else if isq x.norm = true then (if isq ((x.c0 + root x.norm) * hf) = true then ⟨root ((x.c0 + root x.norm) * hf), x.c1 * hf * finv (root ((x.c0 + root x.norm) * hf))⟩ else ⟨root ((x.c0 - root x.norm) * hf), x.c1 * hf * finv (root ((x.c0 - root x.norm) * hf))⟩) else 0

theorem hf_sum (c : F) : c * hf + c * hf = c := by
  have h : c * hf + c * hf = c * (hf + hf) := by grind
  rw [h, hf_two]; grind

theorem mz (z a : F) (hz : z = 0) : a * z + z * a = z := by grind
theorem mz' (z a : F) (hz : z = 0) : z * a + a * z = z := by grind
theorem fadd_comm (a b : F) : a + b = b + a := by grind
theorem fmul_comm (a b : F) : a * b = b * a := by grind
theorem any2_cross {x : F2} (h1 : x.c1 ≠ 0) (hq : isq x.norm = true) : ((x.c0 + root x.norm) * hf) ≠ 0 ∧ ((x.c0 - root x.norm) * hf) ≠ 0 ∧ (isq ((x.c0 + root x.norm) * hf) = true → isq ((x.c0 - root x.norm) * hf) = false) ∧ (isq ((x.c0 + root x.norm) * hf) = false → isq ((x.c0 - root x.norm) * hf) = true) ∧ (((x.c0 + root x.norm) * hf) + ((x.c0 - root x.norm) * hf) = x.c0) ∧ (4 * (((x.c0 + root x.norm) * hf) * ((x.c0 - root x.norm) * hf)) = -(x.c1 * x.c1)) :=
  F2.cross h1 (root_sq hq) (hf_sum _) (hf_sum _)

/-- .. is a root, where there is one. -/
theorem any2_sq {x r : F2} (h : r * r = x) : any2 x * any2 x = x := by
  unfold any2
  by_cases h1 : x.c1 = 0
  · rw [if_pos h1]
    by_cases hq : isq x.c0 = true
    · rw [if_pos hq]
      have e := root_sq hq
      refine F2.ext' ?_ ?_
      · show root x.c0 * root x.c0 - 0 * 0 = x.c0
        rw [e]; grind
      · show root x.c0 * 0 + 0 * root x.c0 = x.c1
        rw [h1]; exact mz 0 _ rfl
    · rw [if_neg hq]
      have e := root_sq (isq_neg (show isq x.c0 = false by simpa using hq))
      refine F2.ext' ?_ ?_
      · show 0 * 0 - root (-x.c0) * root (-x.c0) = x.c0
        rw [e]; grind
      · show 0 * root (-x.c0) + root (-x.c0) * 0 = x.c1
        rw [h1]; exact mz' 0 _ rfl
  · have hq := F2.norm_sq h
    obtain ⟨k0, k1, k2, k3, k4, k5⟩ := any2_cross h1 hq
    rw [if_neg h1, if_pos hq]
    by_cases ht : isq ((x.c0 + root x.norm) * hf) = true
    · rw [if_pos ht]
      exact F2.cross_root hf_two k4 k5 (root_sq ht) (finv_mul (root_ne ht k0))
    · rw [if_neg ht]
      have ht' := k3 (by simpa using ht)
      exact F2.cross_root hf_two ((fadd_comm _ _).trans k4) (by rw [fmul_comm ((x.c0 - root x.norm) * hf) ((x.c0 + root x.norm) * hf)]; exact k5) (root_sq ht') (finv_mul (root_ne ht' k1))

set_option maxHeartbeats 4000000 in
theorem fp2any1 {G : World → Prop} (K : FpK G) (x : F2) (w : World) (hg : G w) (h1 : x.c1 = 0) (hq : isq x.c0 = true) : Calls Tryd.prog 45 #[PV x] w (Ret (PV (any2 x)) w) := by
  have hp0 := Heap.start w
  go_enter Tryd.func45, Tryd.ntmps45
  refine wp_seq_k (fun K1 k1 => ?_)
  refine goes (ks := [.alloc (PC x), .alloc (PC 0)]) (T := [0, 0]) (nt := 12) (nh := 0) (H := []) (A := fun L => [PV x, .pointer (some ⟨L.b 0, 0, none⟩), .pointer (some ⟨L.b 1, 0, none⟩), undef, undef, undef, undef, undef, undef, undef, undef, undef]) (H' := fun L => [(L.b 0, PC x), (L.b 1, PC 0)]) (by kernel_rfl) rfl rfl rfl (fun L => by kernel_rfl) (fun L => by kernel_rfl) hp0 ⟨
    ob_box (v := PV x) (fun _ => rfl) rfl rfl (fun _ => by kernel_rfl) rfl,
    ob_alloc (v := PV 0) (fun _ => rfl) rfl rfl zeroP rfl,
    trivial⟩ (fun L0 w1 hp1 => ?_)
  refine k1 _ _ ?_
  refine wp_seq_k (fun K2 k2 => ?_)
  refine wp_seq_k (fun K3 k3 => ?_)
  refine goes (ks := [.det (.pointer (some ⟨(L0.b 0), 6, none⟩)), .det (FV x.c1), .det (FV 0), .det (.bool true)]) (T := [0, 1, 0, 7]) (nt := 12) (nh := 2) (H := [((L0.b 0), PC x), ((L0.b 1), PC 0)]) (A := fun L => [PV x, .pointer (some ⟨(L0.b 0), 0, none⟩), .pointer (some ⟨(L0.b 1), 0, none⟩), .pointer (some ⟨(L0.b 0), 6, none⟩), FV x.c1, FV 0, .bool true, undef, undef, undef, undef, undef]) (H' := fun L => [((L0.b 0), PC x), ((L0.b 1), PC 0)]) (by kernel_rfl) rfl rfl rfl (fun L => by kernel_rfl) (fun L => by kernel_rfl) hp1 ⟨
    ob_index (b := (L0.b 0)) (off := 0) (k := 1) (sz := 6) (n := 2) (fun _ => rfl) rfl rfl (fun _ => by kernel_rfl) (fun _ => by kernel_rfl) Tryd.underlying26 sizeF (by decide) rfl,
    ob_load (b := (L0.b 0)) (off := 6) (cs := FC x.c1) (by kernel_rfl) (fun _ => rfl) rfl rfl (fun _ => by kernel_rfl) (fun _ _ hs => partF2_1 (seen_at (k := 0) hs rfl)) Tryd.underlying24 rfl (sizeFC _),
    ob_build (qs := #[]) (fun _ => rfl) rfl rfl (fun _ => by kernel_rfl) buildF0,
    ob_eq (u := FV x.c1) (v := FV 0) (fun _ => rfl) rfl rfl (fun _ => by kernel_rfl) (fun _ => by kernel_rfl) (fun w => guardF _ _ _ _ _ w) (fun w => (eqlF _ _ w).trans (by rw [decide_eq_true (h1)]; try rfl)),
    trivial⟩ (fun L1 w2 hp2 => ?_)
  refine k3 _ _ ?_
  refine wp_cond_true (by kernel_rfl) ?_
  refine wp_seq_k (fun K4 k4 => ?_)
  refine goes (ks := [.det (.pointer (some ⟨(L0.b 0), 0, none⟩)), .det (FV x.c0), .det (PV (⟨root x.c0, 0⟩)), .store (.base 1) 0 (PC (⟨root x.c0, 0⟩)) (PC (⟨root x.c0, 0⟩))]) (T := [0, 1, 3, 7]) (nt := 12) (nh := 2) (H := [((L0.b 0), PC x), ((L0.b 1), PC 0)]) (A := fun L => [PV x, .pointer (some ⟨(L0.b 0), 0, none⟩), .pointer (some ⟨(L0.b 1), 0, none⟩), .pointer (some ⟨(L0.b 0), 6, none⟩), FV x.c1, FV 0, .bool true, .pointer (some ⟨(L0.b 0), 0, none⟩), FV x.c0, PV (⟨root x.c0, 0⟩), undef, undef]) (H' := fun L => [((L0.b 0), PC x), ((L0.b 1), PC (⟨root x.c0, 0⟩))]) (by kernel_rfl) rfl rfl rfl (fun L => by kernel_rfl) (fun L => by kernel_rfl) hp2 ⟨
    ob_index (b := (L0.b 0)) (off := 0) (k := 0) (sz := 6) (n := 2) (fun _ => rfl) rfl rfl (fun _ => by kernel_rfl) (fun _ => by kernel_rfl) Tryd.underlying26 sizeF (by decide) rfl,
    ob_load (b := (L0.b 0)) (off := 0) (cs := FC x.c0) (by kernel_rfl) (fun _ => rfl) rfl rfl (fun _ => by kernel_rfl) (fun _ _ hs => partF2_0 (seen_at (k := 0) hs rfl)) Tryd.underlying24 rfl (sizeFC _),
    ob_call (vs := #[FV x.c0]) (by kernel_rfl) (by kernel_rfl) (fun _ => rfl) rfl rfl (fun _ => by kernel_rfl) (fun w hb _ => fp2flat1 K _ w (K.stay hg hb) hq),
    ob_store (old := PC 0) (fun _ => rfl) rfl rfl (fun _ => by kernel_rfl) (fun _ => by kernel_rfl) rfl (sizePC _) (PC_one _) (le_len (PC_len _) (PC_len _) (by decide)) (splice_all ((PC_len _).trans (PC_len _).symm)).symm,
    trivial⟩ (fun L2 w3 hp3 => ?_)
  refine k4 _ _ ?_
  refine wp_ret ?_
  exact bodyPost_ret (v := PV (⟨root x.c0, 0⟩)) (res_c rfl (by kernel_rfl) (hp3.bound 1 rfl).2 Tryd.underlying26 rfl (sizePC _)) rfl ⟨congrArg (fun z => Ending.returned (PV z)) (by unfold any2; rw [if_pos h1, if_pos hq]), hp3.bel⟩
set_option maxHeartbeats 4000000 in
theorem fp2any2 {G : World → Prop} (K : FpK G) (x : F2) (w : World) (hg : G w) (h1 : x.c1 = 0) (hq : isq x.c0 = false) : Calls Tryd.prog 45 #[PV x] w (Ret (PV (any2 x)) w) := by
  have hp0 := Heap.start w
  go_enter Tryd.func45, Tryd.ntmps45
  refine wp_seq_k (fun K1 k1 => ?_)
  refine goes (ks := [.alloc (PC x), .alloc (PC 0)]) (T := [0, 0]) (nt := 12) (nh := 0) (H := []) (A := fun L => [PV x, .pointer (some ⟨L.b 0, 0, none⟩), .pointer (some ⟨L.b 1, 0, none⟩), undef, undef, undef, undef, undef, undef, undef, undef, undef]) (H' := fun L => [(L.b 0, PC x), (L.b 1, PC 0)]) (by kernel_rfl) rfl rfl rfl (fun L => by kernel_rfl) (fun L => by kernel_rfl) hp0 ⟨
    ob_box (v := PV x) (fun _ => rfl) rfl rfl (fun _ => by kernel_rfl) rfl,
    ob_alloc (v := PV 0) (fun _ => rfl) rfl rfl zeroP rfl,
    trivial⟩ (fun L0 w1 hp1 => ?_)
  refine k1 _ _ ?_
  refine wp_seq_k (fun K2 k2 => ?_)
  refine wp_seq_k (fun K3 k3 => ?_)
  refine goes (ks := [.det (.pointer (some ⟨(L0.b 0), 6, none⟩)), .det (FV x.c1), .det (FV 0), .det (.bool true)]) (T := [0, 1, 0, 7]) (nt := 12) (nh := 2) (H := [((L0.b 0), PC x), ((L0.b 1), PC 0)]) (A := fun L => [PV x, .pointer (some ⟨(L0.b 0), 0, none⟩), .pointer (some ⟨(L0.b 1), 0, none⟩), .pointer (some ⟨(L0.b 0), 6, none⟩), FV x.c1, FV 0, .bool true, undef, undef, undef, undef, undef]) (H' := fun L => [((L0.b 0), PC x), ((L0.b 1), PC 0)]) (by kernel_rfl) rfl rfl rfl (fun L => by kernel_rfl) (fun L => by kernel_rfl) hp1 ⟨
    ob_index (b := (L0.b 0)) (off := 0) (k := 1) (sz := 6) (n := 2) (fun _ => rfl) rfl rfl (fun _ => by kernel_rfl) (fun _ => by kernel_rfl) Tryd.underlying26 sizeF (by decide) rfl,
    ob_load (b := (L0.b 0)) (off := 6) (cs := FC x.c1) (by kernel_rfl) (fun _ => rfl) rfl rfl (fun _ => by kernel_rfl) (fun _ _ hs => partF2_1 (seen_at (k := 0) hs rfl)) Tryd.underlying24 rfl (sizeFC _),
    ob_build (qs := #[]) (fun _ => rfl) rfl rfl (fun _ => by kernel_rfl) buildF0,
    ob_eq (u := FV x.c1) (v := FV 0) (fun _ => rfl) rfl rfl (fun _ => by kernel_rfl) (fun _ => by kernel_rfl) (fun w => guardF _ _ _ _ _ w) (fun w => (eqlF _ _ w).trans (by rw [decide_eq_true (h1)]; try rfl)),
    trivial⟩ (fun L1 w2 hp2 => ?_)
  refine k3 _ _ ?_
  refine wp_cond_true (by kernel_rfl) ?_
  refine wp_seq_k (fun K4 k4 => ?_)
  refine goes (ks := [.det (.pointer (some ⟨(L0.b 0), 0, none⟩)), .det (FV x.c0), .det (PV (⟨0, root (-x.c0)⟩)), .store (.base 1) 0 (PC (⟨0, root (-x.c0)⟩)) (PC (⟨0, root (-x.c0)⟩))]) (T := [0, 1, 3, 7]) (nt := 12) (nh := 2) (H := [((L0.b 0), PC x), ((L0.b 1), PC 0)]) (A := fun L => [PV x, .pointer (some ⟨(L0.b 0), 0, none⟩), .pointer (some ⟨(L0.b 1), 0, none⟩), .pointer (some ⟨(L0.b 0), 6, none⟩), FV x.c1, FV 0, .bool true, .pointer (some ⟨(L0.b 0), 0, none⟩), FV x.c0, PV (⟨0, root (-x.c0)⟩), undef, undef]) (H' := fun L => [((L0.b 0), PC x), ((L0.b 1), PC (⟨0, root (-x.c0)⟩))]) (by kernel_rfl) rfl rfl rfl (fun L => by kernel_rfl) (fun L => by kernel_rfl) hp2 ⟨
    ob_index (b := (L0.b 0)) (off := 0) (k := 0) (sz := 6) (n := 2) (fun _ => rfl) rfl rfl (fun _ => by kernel_rfl) (fun _ => by kernel_rfl) Tryd.underlying26 sizeF (by decide) rfl,
    ob_load (b := (L0.b 0)) (off := 0) (cs := FC x.c0) (by kernel_rfl) (fun _ => rfl) rfl rfl (fun _ => by kernel_rfl) (fun _ _ hs => partF2_0 (seen_at (k := 0) hs rfl)) Tryd.underlying24 rfl (sizeFC _),
    ob_call (vs := #[FV x.c0]) (by kernel_rfl) (by kernel_rfl) (fun _ => rfl) rfl rfl (fun _ => by kernel_rfl) (fun w hb _ => fp2flat2 K _ w (K.stay hg hb) hq),
    ob_store (old := PC 0) (fun _ => rfl) rfl rfl (fun _ => by kernel_rfl) (fun _ => by kernel_rfl) rfl (sizePC _) (PC_one _) (le_len (PC_len _) (PC_len _) (by decide)) (splice_all ((PC_len _).trans (PC_len _).symm)).symm,
    trivial⟩ (fun L2 w3 hp3 => ?_)
  refine k4 _ _ ?_
  refine wp_ret ?_
  exact bodyPost_ret (v := PV (⟨0, root (-x.c0)⟩)) (res_c rfl (by kernel_rfl) (hp3.bound 1 rfl).2 Tryd.underlying26 rfl (sizePC _)) rfl ⟨congrArg (fun z => Ending.returned (PV z)) (by unfold any2; rw [if_pos h1, if_neg (by rw [hq]; simp)]), hp3.bel⟩
set_option maxHeartbeats 4000000 in
theorem fp2any3 {G : World → Prop} (K : FpK G) (x r : F2) (w : World) (hg : G w) (h1 : x.c1 ≠ 0) (hr : ∀ w, G w → Calls Tryd.prog 69 #[PV x] w (Ret (PV r) w)) (he : r = any2 x) : Calls Tryd.prog 45 #[PV x] w (Ret (PV (any2 x)) w) := by
  have hp0 := Heap.start w
  go_enter Tryd.func45, Tryd.ntmps45
  refine wp_seq_k (fun K1 k1 => ?_)
  refine goes (ks := [.alloc (PC x), .alloc (PC 0)]) (T := [0, 0]) (nt := 12) (nh := 0) (H := []) (A := fun L => [PV x, .pointer (some ⟨L.b 0, 0, none⟩), .pointer (some ⟨L.b 1, 0, none⟩), undef, undef, undef, undef, undef, undef, undef, undef, undef]) (H' := fun L => [(L.b 0, PC x), (L.b 1, PC 0)]) (by kernel_rfl) rfl rfl rfl (fun L => by kernel_rfl) (fun L => by kernel_rfl) hp0 ⟨
    ob_box (v := PV x) (fun _ => rfl) rfl rfl (fun _ => by kernel_rfl) rfl,
    ob_alloc (v := PV 0) (fun _ => rfl) rfl rfl zeroP rfl,
    trivial⟩ (fun L0 w1 hp1 => ?_)
  refine k1 _ _ ?_
  refine wp_seq_k (fun K2 k2 => ?_)
  refine wp_seq_k (fun K3 k3 => ?_)
  refine goes (ks := [.det (.pointer (some ⟨(L0.b 0), 6, none⟩)), .det (FV x.c1), .det (FV 0), .det (.bool false)]) (T := [0, 1, 0, 7]) (nt := 12) (nh := 2) (H := [((L0.b 0), PC x), ((L0.b 1), PC 0)]) (A := fun L => [PV x, .pointer (some ⟨(L0.b 0), 0, none⟩), .pointer (some ⟨(L0.b 1), 0, none⟩), .pointer (some ⟨(L0.b 0), 6, none⟩), FV x.c1, FV 0, .bool false, undef, undef, undef, undef, undef]) (H' := fun L => [((L0.b 0), PC x), ((L0.b 1), PC 0)]) (by kernel_rfl) rfl rfl rfl (fun L => by kernel_rfl) (fun L => by kernel_rfl) hp1 ⟨
    ob_index (b := (L0.b 0)) (off := 0) (k := 1) (sz := 6) (n := 2) (fun _ => rfl) rfl rfl (fun _ => by kernel_rfl) (fun _ => by kernel_rfl) Tryd.underlying26 sizeF (by decide) rfl,
    ob_load (b := (L0.b 0)) (off := 6) (cs := FC x.c1) (by kernel_rfl) (fun _ => rfl) rfl rfl (fun _ => by kernel_rfl) (fun _ _ hs => partF2_1 (seen_at (k := 0) hs rfl)) Tryd.underlying24 rfl (sizeFC _),
    ob_build (qs := #[]) (fun _ => rfl) rfl rfl (fun _ => by kernel_rfl) buildF0,
    ob_eq (u := FV x.c1) (v := FV 0) (fun _ => rfl) rfl rfl (fun _ => by kernel_rfl) (fun _ => by kernel_rfl) (fun w => guardF _ _ _ _ _ w) (fun w => (eqlF _ _ w).trans (by rw [decide_eq_false (h1)]; try rfl)),
    trivial⟩ (fun L1 w2 hp2 => ?_)
  refine k3 _ _ ?_
  refine wp_cond_false (by kernel_rfl) ?_
  refine skips ?_
  refine k2 _ _ ?_
  refine wp_seq_k (fun K4 k4 => ?_)
  refine goes (ks := [.det (PV x), .det (PV r), .store (.base 1) 0 (PC r) (PC r)]) (T := [0, 1, 3]) (nt := 12) (nh := 2) (H := [((L0.b 0), PC x), ((L0.b 1), PC 0)]) (A := fun L => [PV x, .pointer (some ⟨(L0.b 0), 0, none⟩), .pointer (some ⟨(L0.b 1), 0, none⟩), .pointer (some ⟨(L0.b 0), 6, none⟩), FV x.c1, FV 0, .bool false, undef, undef, undef, PV x, PV r]) (H' := fun L => [((L0.b 0), PC x), ((L0.b 1), PC r)]) (by kernel_rfl) rfl rfl rfl (fun L => by kernel_rfl) (fun L => by kernel_rfl) hp2 ⟨
    ob_load (b := (L0.b 0)) (off := 0) (cs := PC x) (by kernel_rfl) (fun _ => rfl) rfl rfl (fun _ => by kernel_rfl) (fun _ _ hs => (seen_at (k := 0) hs rfl).cells) Tryd.underlying26 rfl (sizePC _),
    ob_call (vs := #[PV x]) (by kernel_rfl) (by kernel_rfl) (fun _ => rfl) rfl rfl (fun _ => by kernel_rfl) (fun w hb _ => hr w (K.stay hg hb)),
    ob_store (old := PC 0) (fun _ => rfl) rfl rfl (fun _ => by kernel_rfl) (fun _ => by kernel_rfl) rfl (sizePC _) (PC_one _) (le_len (PC_len _) (PC_len _) (by decide)) (splice_all ((PC_len _).trans (PC_len _).symm)).symm,
    trivial⟩ (fun L2 w3 hp3 => ?_)
  refine k4 _ _ ?_
  refine wp_ret ?_
  exact bodyPost_ret (v := PV r) (res_c rfl (by kernel_rfl) (hp3.bound 1 rfl).2 Tryd.underlying26 rfl (sizePC _)) rfl ⟨congrArg (fun z => Ending.returned (PV z)) he, hp3.bel⟩
theorem fp2anyRoot {G : World → Prop} (K : FpK G) (x : F2) (w : World) (hg : G w) (hH : ∀ w, G w → w.rangeAt 2 0 (FC hf)) : Calls Tryd.prog 45 #[PV x] w (Ret (PV (any2 x)) w) := by
  by_cases h1 : x.c1 = 0
  · by_cases hq : isq x.c0 = true
    · exact fp2any1 K x w hg h1 hq
    · exact fp2any2 K x w hg h1 (by simpa using hq)
  · by_cases hq : isq x.norm = true
    · obtain ⟨k0, k1, k2, k3, k4, k5⟩ := any2_cross h1 hq
      by_cases ht : isq ((x.c0 + root x.norm) * hf) = true
      · refine fp2any3 K x _ w hg h1 (fun w hg => fp2cross1 K x w hg hH hq ht (root_ne ht k0)) ?_
        unfold any2; rw [if_neg h1, if_pos hq, if_pos ht]
      · have ht' : isq ((x.c0 + root x.norm) * hf) = false := by simpa using ht
        refine fp2any3 K x _ w hg h1 (fun w hg => fp2cross2 K x w hg hH hq ht' (root_ne (k3 ht') k1)) ?_
        unfold any2; rw [if_neg h1, if_pos hq, if_neg ht]
    · refine fp2any3 K x _ w hg h1 (fun w hg => fp2cross0 K x w hg (by simpa using hq)) ?_
      unfold any2; rw [if_neg h1, if_neg hq]
set_option maxHeartbeats 4000000 in
theorem fp2sqrt0 {G : World → Prop} (K : FpK G) (x r : F2) (w : World) (hg : G w) (hr : ∀ w, G w → Calls Tryd.prog 45 #[PV x] w (Ret (PV r) w)) (hs : r * r ≠ x) : Calls Tryd.prog 24 #[PV x] w (Ret (.tuple #[PV 0, .bool false]) w) := by
  have hp0 := Heap.start w
  go_enter Tryd.func24, Tryd.ntmps24
  refine wp_seq_k (fun K1 k1 => ?_)
  refine goes (ks := [.alloc (PC x), .alloc (PC 0), .det (.bool false)]) (T := [0, 0, 0]) (nt := 18) (nh := 0) (H := []) (A := fun L => [PV x, .pointer (some ⟨L.b 0, 0, none⟩), .pointer (some ⟨L.b 1, 0, none⟩), .bool false, undef, undef, undef, undef, undef, undef, undef, undef, undef, undef, undef, undef, undef, undef]) (H' := fun L => [(L.b 0, PC x), (L.b 1, PC 0)]) (by kernel_rfl) rfl rfl rfl (fun L => by kernel_rfl) (fun L => by kernel_rfl) hp0 ⟨
    ob_box (v := PV x) (fun _ => rfl) rfl rfl (fun _ => by kernel_rfl) rfl,
    ob_alloc (v := PV 0) (fun _ => rfl) rfl rfl zeroP rfl,
    ob_assign (fun _ => rfl) rfl rfl (fun _ => by kernel_rfl),
    trivial⟩ (fun L0 w1 hp1 => ?_)
  refine k1 _ _ ?_
  refine wp_seq_k (fun K2 k2 => ?_)
  refine goes (ks := [.det (PV x), .det (PV r), .alloc (PC 0), .store (.new 2) 0 (PC r) (PC r)]) (T := [0, 1, 0, 7]) (nt := 18) (nh := 2) (H := [((L0.b 0), PC x), ((L0.b 1), PC 0)]) (A := fun L => [PV x, .pointer (some ⟨(L0.b 0), 0, none⟩), .pointer (some ⟨(L0.b 1), 0, none⟩), .bool false, .pointer (some ⟨L.b 2, 0, none⟩), PV x, PV r, undef, undef, undef, undef, undef, undef, undef, undef, undef, undef, undef]) (H' := fun L => [((L0.b 0), PC x), ((L0.b 1), PC 0), (L.b 2, PC r)]) (by kernel_rfl) rfl rfl rfl (fun L => by kernel_rfl) (fun L => by kernel_rfl) hp1 ⟨
    ob_load (b := (L0.b 0)) (off := 0) (cs := PC x) (by kernel_rfl) (fun _ => rfl) rfl rfl (fun _ => by kernel_rfl) (fun _ _ hs => (seen_at (k := 0) hs rfl).cells) Tryd.underlying26 rfl (sizePC _),
    ob_call (vs := #[PV x]) (by kernel_rfl) (by kernel_rfl) (fun _ => rfl) rfl rfl (fun _ => by kernel_rfl) (fun w hb _ => hr w (K.stay hg hb)),
    ob_alloc (v := PV 0) (fun _ => rfl) rfl rfl zeroP rfl,
    ob_store (old := PC 0) (fun _ => rfl) rfl rfl (fun _ => by kernel_rfl) (fun _ => by kernel_rfl) rfl (sizePC _) (PC_one _) (le_len (PC_len _) (PC_len _) (by decide)) (splice_all ((PC_len _).trans (PC_len _).symm)).symm,
    trivial⟩ (fun L1 w2 hp2 => ?_)
  refine k2 _ _ ?_
  refine wp_seq_k (fun K3 k3 => ?_)
  refine wp_seq_k (fun K4 k4 => ?_)
  refine draws (by kernel_rfl) (ks := [.det (PV r), .det (PV r), .det (PV ((r * r))), .det (PV x), .det (.bool true)]) (T := [0, 0, 3, 0, 15]) (nt := 18) (nh := 3) (H := [((L0.b 0), PC x), ((L0.b 1), PC 0), ((L1.b 2), PC r)]) (A := fun L => [PV x, .pointer (some ⟨(L0.b 0), 0, none⟩), .pointer (some ⟨(L0.b 1), 0, none⟩), .bool false, .pointer (some ⟨(L1.b 2), 0, none⟩), PV x, PV r, PV r, PV r, PV ((r * r)), PV x, .bool true, undef, undef, undef, undef, undef, undef]) (H' := fun L => [((L0.b 0), PC x), ((L0.b 1), PC 0), ((L1.b 2), PC r)]) (by kernel_rfl) rfl rfl rfl (fun L => by kernel_rfl) (fun L => by kernel_rfl) hp2 ⟨
    ob_load (b := (L1.b 2)) (off := 0) (cs := PC r) (by kernel_rfl) (fun _ => rfl) rfl rfl (fun _ => by kernel_rfl) (fun _ _ hs => (seen_at (k := 2) hs rfl).cells) Tryd.underlying26 rfl (sizePC _),
    ob_load (b := (L1.b 2)) (off := 0) (cs := PC r) (by kernel_rfl) (fun _ => rfl) rfl rfl (fun _ => by kernel_rfl) (fun _ _ hs => (seen_at (k := 2) hs rfl).cells) Tryd.underlying26 rfl (sizePC _),
    ob_call (vs := #[PV r, PV r]) (by kernel_rfl) (by kernel_rfl) (fun _ => rfl) rfl rfl (fun _ => by kernel_rfl) (fun w hb _ => fp2Mul K _ _ w (K.stay hg hb)),
    ob_load (b := (L0.b 0)) (off := 0) (cs := PC x) (by kernel_rfl) (fun _ => rfl) rfl rfl (fun _ => by kernel_rfl) (fun _ _ hs => (seen_at (k := 0) hs rfl).cells) Tryd.underlying26 rfl (sizePC _),
    ob_ne (u := PV ((r * r))) (v := PV x) (fun _ => rfl) rfl rfl (fun _ => by kernel_rfl) (fun _ => by kernel_rfl) (fun w => guardP _ _ _ _ _ w) (fun w => (neqP _ _ w).trans (by rw [decide_eq_false (hs)]; try rfl)),
    trivial⟩ (fun L2 w3 hp3 => ?_)
  refine k4 _ _ ?_
  refine wp_cond_true (by kernel_rfl) ?_
  refine wp_seq_k (fun K5 k5 => ?_)
  refine goes (ks := [.det (PV 0), .store (.base 1) 0 (PC 0) (PC 0), .det (.bool false)]) (T := [0, 1, 3]) (nt := 18) (nh := 3) (H := [((L0.b 0), PC x), ((L0.b 1), PC 0), ((L1.b 2), PC r)]) (A := fun L => [PV x, .pointer (some ⟨(L0.b 0), 0, none⟩), .pointer (some ⟨(L0.b 1), 0, none⟩), .bool false, .pointer (some ⟨(L1.b 2), 0, none⟩), PV x, PV r, PV r, PV r, PV ((r * r)), PV x, .bool true, PV 0, undef, undef, undef, undef, undef]) (H' := fun L => [((L0.b 0), PC x), ((L0.b 1), PC 0), ((L1.b 2), PC r)]) (by kernel_rfl) rfl rfl rfl (fun L => by kernel_rfl) (fun L => by kernel_rfl) hp3 ⟨
    ob_build (qs := #[]) (fun _ => rfl) rfl rfl (fun _ => by kernel_rfl) buildP0,
    ob_store (old := PC 0) (fun _ => rfl) rfl rfl (fun _ => by kernel_rfl) (fun _ => by kernel_rfl) rfl (sizePC _) (PC_one _) (le_len (PC_len _) (PC_len _) (by decide)) (splice_all ((PC_len _).trans (PC_len _).symm)).symm,
    ob_assign (fun _ => rfl) rfl rfl (fun _ => by kernel_rfl),
    trivial⟩ (fun L3 w4 hp4 => ?_)
  refine k5 _ _ ?_
  refine wp_ret ?_
  exact bodyPost_ret (v := .tuple #[PV 0, .bool false]) (res_ct rfl (by kernel_rfl) (by kernel_rfl) (hp4.bound 1 rfl).2 Tryd.underlying26 rfl (sizePC _)) rfl ⟨rfl, hp4.bel⟩
set_option maxHeartbeats 4000000 in
theorem fp2sqrt1 {G : World → Prop} (K : FpK G) (x r : F2) (w : World) (hg : G w) (hr : ∀ w, G w → Calls Tryd.prog 45 #[PV x] w (Ret (PV r) w)) (hs : r * r = x) (hG : r.great = true) : Calls Tryd.prog 24 #[PV x] w (Ret (.tuple #[PV (-r), .bool true]) w) := by
  have hp0 := Heap.start w
  go_enter Tryd.func24, Tryd.ntmps24
  refine wp_seq_k (fun K1 k1 => ?_)
  refine goes (ks := [.alloc (PC x), .alloc (PC 0), .det (.bool false)]) (T := [0, 0, 0]) (nt := 18) (nh := 0) (H := []) (A := fun L => [PV x, .pointer (some ⟨L.b 0, 0, none⟩), .pointer (some ⟨L.b 1, 0, none⟩), .bool false, undef, undef, undef, undef, undef, undef, undef, undef, undef, undef, undef, undef, undef, undef]) (H' := fun L => [(L.b 0, PC x), (L.b 1, PC 0)]) (by kernel_rfl) rfl rfl rfl (fun L => by kernel_rfl) (fun L => by kernel_rfl) hp0 ⟨
    ob_box (v := PV x) (fun _ => rfl) rfl rfl (fun _ => by kernel_rfl) rfl,
    ob_alloc (v := PV 0) (fun _ => rfl) rfl rfl zeroP rfl,
    ob_assign (fun _ => rfl) rfl rfl (fun _ => by kernel_rfl),
    trivial⟩ (fun L0 w1 hp1 => ?_)
  refine k1 _ _ ?_
  refine wp_seq_k (fun K2 k2 => ?_)
  refine goes (ks := [.det (PV x), .det (PV r), .alloc (PC 0), .store (.new 2) 0 (PC r) (PC r)]) (T := [0, 1, 0, 7]) (nt := 18) (nh := 2) (H := [((L0.b 0), PC x), ((L0.b 1), PC 0)]) (A := fun L => [PV x, .pointer (some ⟨(L0.b 0), 0, none⟩), .pointer (some ⟨(L0.b 1), 0, none⟩), .bool false, .pointer (some ⟨L.b 2, 0, none⟩), PV x, PV r, undef, undef, undef, undef, undef, undef, undef, undef, undef, undef, undef]) (H' := fun L => [((L0.b 0), PC x), ((L0.b 1), PC 0), (L.b 2, PC r)]) (by kernel_rfl) rfl rfl rfl (fun L => by kernel_rfl) (fun L => by kernel_rfl) hp1 ⟨
    ob_load (b := (L0.b 0)) (off := 0) (cs := PC x) (by kernel_rfl) (fun _ => rfl) rfl rfl (fun _ => by kernel_rfl) (fun _ _ hs => (seen_at (k := 0) hs rfl).cells) Tryd.underlying26 rfl (sizePC _),
    ob_call (vs := #[PV x]) (by kernel_rfl) (by kernel_rfl) (fun _ => rfl) rfl rfl (fun _ => by kernel_rfl) (fun w hb _ => hr w (K.stay hg hb)),
    ob_alloc (v := PV 0) (fun _ => rfl) rfl rfl zeroP rfl,
    ob_store (old := PC 0) (fun _ => rfl) rfl rfl (fun _ => by kernel_rfl) (fun _ => by kernel_rfl) rfl (sizePC _) (PC_one _) (le_len (PC_len _) (PC_len _) (by decide)) (splice_all ((PC_len _).trans (PC_len _).symm)).symm,
    trivial⟩ (fun L1 w2 hp2 => ?_)
  refine k2 _ _ ?_
  refine wp_seq_k (fun K3 k3 => ?_)
  refine wp_seq_k (fun K4 k4 => ?_)
  refine draws (by kernel_rfl) (ks := [.det (PV r), .det (PV r), .det (PV ((r * r))), .det (PV x), .det (.bool false)]) (T := [0, 0, 3, 0, 15]) (nt := 18) (nh := 3) (H := [((L0.b 0), PC x), ((L0.b 1), PC 0), ((L1.b 2), PC r)]) (A := fun L => [PV x, .pointer (some ⟨(L0.b 0), 0, none⟩), .pointer (some ⟨(L0.b 1), 0, none⟩), .bool false, .pointer (some ⟨(L1.b 2), 0, none⟩), PV x, PV r, PV r, PV r, PV ((r * r)), PV x, .bool false, undef, undef, undef, undef, undef, undef]) (H' := fun L => [((L0.b 0), PC x), ((L0.b 1), PC 0), ((L1.b 2), PC r)]) (by kernel_rfl) rfl rfl rfl (fun L => by kernel_rfl) (fun L => by kernel_rfl) hp2 ⟨
    ob_load (b := (L1.b 2)) (off := 0) (cs := PC r) (by kernel_rfl) (fun _ => rfl) rfl rfl (fun _ => by kernel_rfl) (fun _ _ hs => (seen_at (k := 2) hs rfl).cells) Tryd.underlying26 rfl (sizePC _),
    ob_load (b := (L1.b 2)) (off := 0) (cs := PC r) (by kernel_rfl) (fun _ => rfl) rfl rfl (fun _ => by kernel_rfl) (fun _ _ hs => (seen_at (k := 2) hs rfl).cells) Tryd.underlying26 rfl (sizePC _),
    ob_call (vs := #[PV r, PV r]) (by kernel_rfl) (by kernel_rfl) (fun _ => rfl) rfl rfl (fun _ => by kernel_rfl) (fun w hb _ => fp2Mul K _ _ w (K.stay hg hb)),
    ob_load (b := (L0.b 0)) (off := 0) (cs := PC x) (by kernel_rfl) (fun _ => rfl) rfl rfl (fun _ => by kernel_rfl) (fun _ _ hs => (seen_at (k := 0) hs rfl).cells) Tryd.underlying26 rfl (sizePC _),
    ob_ne (u := PV ((r * r))) (v := PV x) (fun _ => rfl) rfl rfl (fun _ => by kernel_rfl) (fun _ => by kernel_rfl) (fun w => guardP _ _ _ _ _ w) (fun w => (neqP _ _ w).trans (by rw [decide_eq_true (hs)]; try rfl)),
    trivial⟩ (fun L2 w3 hp3 => ?_)
  refine k4 _ _ ?_
  refine wp_cond_false (by kernel_rfl) ?_
  refine skips ?_
  refine k3 _ _ ?_
  refine wp_seq_k (fun K5 k5 => ?_)
  refine wp_seq_k (fun K6 k6 => ?_)
  refine goes (ks := [.det (PV r), .det (.bool true)]) (T := [0, 1]) (nt := 18) (nh := 3) (H := [((L0.b 0), PC x), ((L0.b 1), PC 0), ((L1.b 2), PC r)]) (A := fun L => [PV x, .pointer (some ⟨(L0.b 0), 0, none⟩), .pointer (some ⟨(L0.b 1), 0, none⟩), .bool false, .pointer (some ⟨(L1.b 2), 0, none⟩), PV x, PV r, PV r, PV r, PV ((r * r)), PV x, .bool false, undef, PV r, .bool true, undef, undef, undef]) (H' := fun L => [((L0.b 0), PC x), ((L0.b 1), PC 0), ((L1.b 2), PC r)]) (by kernel_rfl) rfl rfl rfl (fun L => by kernel_rfl) (fun L => by kernel_rfl) hp3 ⟨
    ob_load (b := (L1.b 2)) (off := 0) (cs := PC r) (by kernel_rfl) (fun _ => rfl) rfl rfl (fun _ => by kernel_rfl) (fun _ _ hs => (seen_at (k := 2) hs rfl).cells) Tryd.underlying26 rfl (sizePC _),
    ob_call (vs := #[PV r]) (by kernel_rfl) (by kernel_rfl) (fun _ => rfl) rfl rfl (fun _ => by kernel_rfl) (fun w hb _ => by have h := fp2Great K r w (K.stay hg hb); rw [hG] at h; exact h),
    trivial⟩ (fun L3 w4 hp4 => ?_)
  refine k6 _ _ ?_
  refine wp_cond_true (by kernel_rfl) ?_
  refine wp_seq_k (fun K7 k7 => ?_)
  refine goes (ks := [.det (PV r), .det (PV ((-r))), .store (.base 1) 0 (PC ((-r))) (PC ((-r))), .det (.bool true)]) (T := [0, 1, 3, 7]) (nt := 18) (nh := 3) (H := [((L0.b 0), PC x), ((L0.b 1), PC 0), ((L1.b 2), PC r)]) (A := fun L => [PV x, .pointer (some ⟨(L0.b 0), 0, none⟩), .pointer (some ⟨(L0.b 1), 0, none⟩), .bool true, .pointer (some ⟨(L1.b 2), 0, none⟩), PV x, PV r, PV r, PV r, PV ((r * r)), PV x, .bool false, undef, PV r, .bool true, PV r, PV ((-r)), undef]) (H' := fun L => [((L0.b 0), PC x), ((L0.b 1), PC ((-r))), ((L1.b 2), PC r)]) (by kernel_rfl) rfl rfl rfl (fun L => by kernel_rfl) (fun L => by kernel_rfl) hp4 ⟨
    ob_load (b := (L1.b 2)) (off := 0) (cs := PC r) (by kernel_rfl) (fun _ => rfl) rfl rfl (fun _ => by kernel_rfl) (fun _ _ hs => (seen_at (k := 2) hs rfl).cells) Tryd.underlying26 rfl (sizePC _),
    ob_call (vs := #[PV r]) (by kernel_rfl) (by kernel_rfl) (fun _ => rfl) rfl rfl (fun _ => by kernel_rfl) (fun w hb _ => fp2Neg K _ w (K.stay hg hb)),
    ob_store (old := PC 0) (fun _ => rfl) rfl rfl (fun _ => by kernel_rfl) (fun _ => by kernel_rfl) rfl (sizePC _) (PC_one _) (le_len (PC_len _) (PC_len _) (by decide)) (splice_all ((PC_len _).trans (PC_len _).symm)).symm,
    ob_assign (fun _ => rfl) rfl rfl (fun _ => by kernel_rfl),
    trivial⟩ (fun L4 w5 hp5 => ?_)
  refine k7 _ _ ?_
  refine wp_ret ?_
  exact bodyPost_ret (v := .tuple #[PV ((-r)), .bool true]) (res_ct rfl (by kernel_rfl) (by kernel_rfl) (hp5.bound 1 rfl).2 Tryd.underlying26 rfl (sizePC _)) rfl ⟨rfl, hp5.bel⟩
set_option maxHeartbeats 4000000 in
theorem fp2sqrt2 {G : World → Prop} (K : FpK G) (x r : F2) (w : World) (hg : G w) (hr : ∀ w, G w → Calls Tryd.prog 45 #[PV x] w (Ret (PV r) w)) (hs : r * r = x) (hG : r.great = false) : Calls Tryd.prog 24 #[PV x] w (Ret (.tuple #[PV r, .bool true]) w) := by
  have hp0 := Heap.start w
  go_enter Tryd.func24, Tryd.ntmps24
  refine wp_seq_k (fun K1 k1 => ?_)
  refine goes (ks := [.alloc (PC x), .alloc (PC 0), .det (.bool false)]) (T := [0, 0, 0]) (nt := 18) (nh := 0) (H := []) (A := fun L => [PV x, .pointer (some ⟨L.b 0, 0, none⟩), .pointer (some ⟨L.b 1, 0, none⟩), .bool false, undef, undef, undef, undef, undef, undef, undef, undef, undef, undef, undef, undef, undef, undef]) (H' := fun L => [(L.b 0, PC x), (L.b 1, PC 0)]) (by kernel_rfl) rfl rfl rfl (fun L => by kernel_rfl) (fun L => by kernel_rfl) hp0 ⟨
    ob_box (v := PV x) (fun _ => rfl) rfl rfl (fun _ => by kernel_rfl) rfl,
    ob_alloc (v := PV 0) (fun _ => rfl) rfl rfl zeroP rfl,
    ob_assign (fun _ => rfl) rfl rfl (fun _ => by kernel_rfl),
    trivial⟩ (fun L0 w1 hp1 => ?_)
  refine k1 _ _ ?_
  refine wp_seq_k (fun K2 k2 => ?_)
  refine goes (ks := [.det (PV x), .det (PV r), .alloc (PC 0), .store (.new 2) 0 (PC r) (PC r)]) (T := [0, 1, 0, 7]) (nt := 18) (nh := 2) (H := [((L0.b 0), PC x), ((L0.b 1), PC 0)]) (A := fun L => [PV x, .pointer (some ⟨(L0.b 0), 0, none⟩), .pointer (some ⟨(L0.b 1), 0, none⟩), .bool false, .pointer (some ⟨L.b 2, 0, none⟩), PV x, PV r, undef, undef, undef, undef, undef, undef, undef, undef, undef, undef, undef]) (H' := fun L => [((L0.b 0), PC x), ((L0.b 1), PC 0), (L.b 2, PC r)]) (by kernel_rfl) rfl rfl rfl (fun L => by kernel_rfl) (fun L => by kernel_rfl) hp1 ⟨
    ob_load (b := (L0.b 0)) (off := 0) (cs := PC x) (by kernel_rfl) (fun _ => rfl) rfl rfl (fun _ => by kernel_rfl) (fun _ _ hs => (seen_at (k := 0) hs rfl).cells) Tryd.underlying26 rfl (sizePC _),
    ob_call (vs := #[PV x]) (by kernel_rfl) (by kernel_rfl) (fun _ => rfl) rfl rfl (fun _ => by kernel_rfl) (fun w hb _ => hr w (K.stay hg hb)),
    ob_alloc (v := PV 0) (fun _ => rfl) rfl rfl zeroP rfl,
    ob_store (old := PC 0) (fun _ => rfl) rfl rfl (fun _ => by kernel_rfl) (fun _ => by kernel_rfl) rfl (sizePC _) (PC_one _) (le_len (PC_len _) (PC_len _) (by decide)) (splice_all ((PC_len _).trans (PC_len _).symm)).symm,
    trivial⟩ (fun L1 w2 hp2 => ?_)
  refine k2 _ _ ?_
  refine wp_seq_k (fun K3 k3 => ?_)
  refine wp_seq_k (fun K4 k4 => ?_)
  refine draws (by kernel_rfl) (ks := [.det (PV r), .det (PV r), .det (PV ((r * r))), .det (PV x), .det (.bool false)]) (T := [0, 0, 3, 0, 15]) (nt := 18) (nh := 3) (H := [((L0.b 0), PC x), ((L0.b 1), PC 0), ((L1.b 2), PC r)]) (A := fun L => [PV x, .pointer (some ⟨(L0.b 0), 0, none⟩), .pointer (some ⟨(L0.b 1), 0, none⟩), .bool false, .pointer (some ⟨(L1.b 2), 0, none⟩), PV x, PV r, PV r, PV r, PV ((r * r)), PV x, .bool false, undef, undef, undef, undef, undef, undef]) (H' := fun L => [((L0.b 0), PC x), ((L0.b 1), PC 0), ((L1.b 2), PC r)]) (by kernel_rfl) rfl rfl rfl (fun L => by kernel_rfl) (fun L => by kernel_rfl) hp2 ⟨
    ob_load (b := (L1.b 2)) (off := 0) (cs := PC r) (by kernel_rfl) (fun _ => rfl) rfl rfl (fun _ => by kernel_rfl) (fun _ _ hs => (seen_at (k := 2) hs rfl).cells) Tryd.underlying26 rfl (sizePC _),
    ob_load (b := (L1.b 2)) (off := 0) (cs := PC r) (by kernel_rfl) (fun _ => rfl) rfl rfl (fun _ => by kernel_rfl) (fun _ _ hs => (seen_at (k := 2) hs rfl).cells) Tryd.underlying26 rfl (sizePC _),
    ob_call (vs := #[PV r, PV r]) (by kernel_rfl) (by kernel_rfl) (fun _ => rfl) rfl rfl (fun _ => by kernel_rfl) (fun w hb _ => fp2Mul K _ _ w (K.stay hg hb)),
    ob_load (b := (L0.b 0)) (off := 0) (cs := PC x) (by kernel_rfl) (fun _ => rfl) rfl rfl (fun _ => by kernel_rfl) (fun _ _ hs => (seen_at (k := 0) hs rfl).cells) Tryd.underlying26 rfl (sizePC _),
    ob_ne (u := PV ((r * r))) (v := PV x) (fun _ => rfl) rfl rfl (fun _ => by kernel_rfl) (fun _ => by kernel_rfl) (fun w => guardP _ _ _ _ _ w) (fun w => (neqP _ _ w).trans (by rw [decide_eq_true (hs)]; try rfl)),
    trivial⟩ (fun L2 w3 hp3 => ?_)
  refine k4 _ _ ?_
  refine wp_cond_false (by kernel_rfl) ?_
  refine skips ?_
  refine k3 _ _ ?_
  refine wp_seq_k (fun K5 k5 => ?_)
  refine wp_seq_k (fun K6 k6 => ?_)
  refine goes (ks := [.det (PV r), .det (.bool false)]) (T := [0, 1]) (nt := 18) (nh := 3) (H := [((L0.b 0), PC x), ((L0.b 1), PC 0), ((L1.b 2), PC r)]) (A := fun L => [PV x, .pointer (some ⟨(L0.b 0), 0, none⟩), .pointer (some ⟨(L0.b 1), 0, none⟩), .bool false, .pointer (some ⟨(L1.b 2), 0, none⟩), PV x, PV r, PV r, PV r, PV ((r * r)), PV x, .bool false, undef, PV r, .bool false, undef, undef, undef]) (H' := fun L => [((L0.b 0), PC x), ((L0.b 1), PC 0), ((L1.b 2), PC r)]) (by kernel_rfl) rfl rfl rfl (fun L => by kernel_rfl) (fun L => by kernel_rfl) hp3 ⟨
    ob_load (b := (L1.b 2)) (off := 0) (cs := PC r) (by kernel_rfl) (fun _ => rfl) rfl rfl (fun _ => by kernel_rfl) (fun _ _ hs => (seen_at (k := 2) hs rfl).cells) Tryd.underlying26 rfl (sizePC _),
    ob_call (vs := #[PV r]) (by kernel_rfl) (by kernel_rfl) (fun _ => rfl) rfl rfl (fun _ => by kernel_rfl) (fun w hb _ => by have h := fp2Great K r w (K.stay hg hb); rw [hG] at h; exact h),
    trivial⟩ (fun L3 w4 hp4 => ?_)
  refine k6 _ _ ?_
  refine wp_cond_false (by kernel_rfl) ?_
  refine skips ?_
  refine k5 _ _ ?_
  refine wp_seq_k (fun K7 k7 => ?_)
  refine goes (ks := [.det (PV r), .store (.base 1) 0 (PC r) (PC r), .det (.bool true)]) (T := [0, 1, 3]) (nt := 18) (nh := 3) (H := [((L0.b 0), PC x), ((L0.b 1), PC 0), ((L1.b 2), PC r)]) (A := fun L => [PV x, .pointer (some ⟨(L0.b 0), 0, none⟩), .pointer (some ⟨(L0.b 1), 0, none⟩), .bool true, .pointer (some ⟨(L1.b 2), 0, none⟩), PV x, PV r, PV r, PV r, PV ((r * r)), PV x, .bool false, undef, PV r, .bool false, undef, undef, PV r]) (H' := fun L => [((L0.b 0), PC x), ((L0.b 1), PC r), ((L1.b 2), PC r)]) (by kernel_rfl) rfl rfl rfl (fun L => by kernel_rfl) (fun L => by kernel_rfl) hp4 ⟨
    ob_load (b := (L1.b 2)) (off := 0) (cs := PC r) (by kernel_rfl) (fun _ => rfl) rfl rfl (fun _ => by kernel_rfl) (fun _ _ hs => (seen_at (k := 2) hs rfl).cells) Tryd.underlying26 rfl (sizePC _),
    ob_store (old := PC 0) (fun _ => rfl) rfl rfl (fun _ => by kernel_rfl) (fun _ => by kernel_rfl) rfl (sizePC _) (PC_one _) (le_len (PC_len _) (PC_len _) (by decide)) (splice_all ((PC_len _).trans (PC_len _).symm)).symm,
    ob_assign (fun _ => rfl) rfl rfl (fun _ => by kernel_rfl),
    trivial⟩ (fun L4 w5 hp5 => ?_)
  refine k7 _ _ ?_
  refine wp_ret ?_
  exact bodyPost_ret (v := .tuple #[PV r, .bool true]) (res_ct rfl (by kernel_rfl) (by kernel_rfl) (hp5.bound 1 rfl).2 Tryd.underlying26 rfl (sizePC _)) rfl ⟨rfl, hp5.bel⟩
/-- The root that is told. -/
theorem fp2Sqrt {G : World → Prop} (K : FpK G) (x : F2) (w : World) (hg : G w) (hH : ∀ w, G w → w.rangeAt 2 0 (FC hf)) : Calls Tryd.prog 24 #[PV x] w (Ret (.tuple #[PV x.sq2, .bool x.is2]) w) := by
  have hr := fun w hg => fp2anyRoot K x w hg hH
  by_cases hs : any2 x * any2 x = x
  · rw [F2.is2_of hs]
    cases hG : (any2 x).great with
    | true =>
      have h0 : any2 x ≠ 0 := fun e => by rw [e, F2.great_zero'] at hG; cases hG
      rw [F2.sq2_of (r := -any2 x) (by rw [F2.neg_mul_neg']; exact hs) (by rw [F2.great_neg' h0, hG]; rfl)]
      exact fp2sqrt1 K x _ w hg hr hs hG
    | false =>
      rw [F2.sq2_of hs hG]
      exact fp2sqrt2 K x _ w hg hr hs hG
  · obtain ⟨e1, e2⟩ := F2.is2_no (a := x) (fun r hr => hs (any2_sq hr))
    rw [e1, e2]
    exact fp2sqrt0 K x _ w hg hr hs
end Go.Proofs.YtgoghcmnnhglhaaDoor.fpn
