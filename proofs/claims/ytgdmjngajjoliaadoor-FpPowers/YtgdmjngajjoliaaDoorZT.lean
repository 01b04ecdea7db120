/- bring, May, Add, Sub, Neg. -/
import Derived.Test.YtgdmjngajjoliaaDoorZA
namespace Go.Proofs.YtgdmjngajjoliaaDoor.fpn
open Go.RowKit
attribute [local go_sem ↓] Go.wp_at_zero Go.wp_at_succ
set_option linter.unusedVariables false

theorem finA {t : TypeId} {W x2 : World} (h : Nat → Int) (hb : Below W.heap.size W x2) : Below W.heap.size W (x2.alloc (.cells #[.int .u64 (h 0), .int .u64 (h 1), .int .u64 (h 2), .int .u64 (h 3), .int .u64 (h 4), .int .u64 (h 5)] t)) ∧ Mut (x2.alloc (.cells #[.int .u64 (h 0), .int .u64 (h 1), .int .u64 (h 2), .int .u64 (h 3), .int .u64 (h 4), .int .u64 (h 5)] t)) x2.heap.size 0 6 h :=
  ⟨Below.up hb (Nat.le_refl _) (below_one _ _), mut_four _ _ _⟩
theorem finB {b : Nat} {W x2 : World} (h : Nat → Int) (hb : Below W.heap.size W x2) (hm : Mut x2 b 0 6 Z) (hle : W.heap.size ≤ b) : Below W.heap.size W ((((((x2.setCell ⟨b, 0, none⟩ (.int .u64 (h 0))).setCell ⟨b, 1, none⟩ (.int .u64 (h 1))).setCell ⟨b, 2, none⟩ (.int .u64 (h 2))).setCell ⟨b, 3, none⟩ (.int .u64 (h 3))).setCell ⟨b, 4, none⟩ (.int .u64 (h 4))).setCell ⟨b, 5, none⟩ (.int .u64 (h 5))) ∧ Mut ((((((x2.setCell ⟨b, 0, none⟩ (.int .u64 (h 0))).setCell ⟨b, 1, none⟩ (.int .u64 (h 1))).setCell ⟨b, 2, none⟩ (.int .u64 (h 2))).setCell ⟨b, 3, none⟩ (.int .u64 (h 3))).setCell ⟨b, 4, none⟩ (.int .u64 (h 4))).setCell ⟨b, 5, none⟩ (.int .u64 (h 5))) b 0 6 h :=
  ⟨below_set6 hb hle _ _ _ _ _ _, mut_set6 hm h⟩

set_option maxHeartbeats 4000000 in
theorem bring_at (f h k : Nat → Int) (c : Int) (w : World) (K : ∀ w, Calls Tryd.prog 40 #[.agg #[.int .u64 (f 0), .int .u64 (f 1), .int .u64 (f 2), .int .u64 (f 3), .int .u64 (f 4), .int .u64 (f 5)], .agg #[.int .u64 (rL 0), .int .u64 (rL 1), .int .u64 (rL 2), .int .u64 (rL 3), .int .u64 (rL 4), .int .u64 (rL 5)]] w fun e w' => e = .returned (.tuple #[.agg #[.int .u64 (h 0), .int .u64 (h 1), .int .u64 (h 2), .int .u64 (h 3), .int .u64 (h 4), .int .u64 (h 5)], .int .u64 c]) ∧ Below w.heap.size w w') (hc : Hid ((c = 0 ∧ k = h) ∨ (c = 1 ∧ k = f))) :
    Calls Tryd.prog 42 #[.agg #[.int .u64 (f 0), .int .u64 (f 1), .int .u64 (f 2), .int .u64 (f 3), .int .u64 (f 4), .int .u64 (f 5)]] w fun e w' => e = .returned (.agg #[.int .u64 (k 0), .int .u64 (k 1), .int .u64 (k 2), .int .u64 (k 3), .int .u64 (k 4), .int .u64 (k 5)]) ∧ Below w.heap.size w w' := by
  have HK : Hid _ := K
  clear K
  obtain ⟨B1, z1, hF, hR⟩ := pair_all w f 24
  unfold pair at B1 z1 hF hR
  go_enter Tryd.func42, Tryd.ntmps42
  go_wp2_with fail
  generalize (w.alloc (.cells #[.int .u64 (f 0), .int .u64 (f 1), .int .u64 (f 2), .int .u64 (f 3), .int .u64 (f 4), .int .u64 (f 5)] 24)).alloc (.cells #[.int .u64 0, .int .u64 0, .int .u64 0, .int .u64 0, .int .u64 0, .int .u64 0] 24) = W at *
  have HS : Hid (∀ x, Below W.heap.size W x → (x.cell? ⟨w.heap.size, 0, none⟩ = some (.int .u64 (f 0)) ∧ x.cell? ⟨w.heap.size, 1, none⟩ = some (.int .u64 (f 1)) ∧ x.cell? ⟨w.heap.size, 2, none⟩ = some (.int .u64 (f 2)) ∧ x.cell? ⟨w.heap.size, 3, none⟩ = some (.int .u64 (f 3)) ∧ x.cell? ⟨w.heap.size, 4, none⟩ = some (.int .u64 (f 4)) ∧ x.cell? ⟨w.heap.size, 5, none⟩ = some (.int .u64 (f 5)))) := fun x hx => at6 (hF.at.below hx)
  have B1' : Hid _ := B1
  have HR : Hid _ := hR
  have HF : Hid _ := hF
  have Z1 : Hid _ := z1
  have lt1 : w.heap.size < W.heap.size := by rw [z1]; omega
  have lt0 : w.heap.size + 1 < W.heap.size := by rw [z1]; omega
  clear hF hR B1 z1
  obtain ⟨a0, a1, a2, a3, a4, a5⟩ := HS.out _ (Below.refl _ _)
  go_region_with (first
    | (go_at_call 41; refine Calls.mono (prime_any _) ?_; rintro e x1 ⟨rfl, b1⟩; first | (have BX : Below W.heap.size W x1 := below_drew b1; have lt2 : w.heap.size < x1.heap.size := Nat.lt_of_lt_of_le lt1 BX.size; have BW2 : Hid _ := BX; obtain ⟨e0, e1, e2, e3, e4, e5⟩ := HS.out _ BX; clear BX b1) | (have BX : Below W.heap.size W x1 := (boxB b1).1; have lt2 : w.heap.size < x1.heap.size := Nat.lt_of_lt_of_le lt1 BX.size; have MD : Hid (Mut x1 W.heap.size 0 6 Z) := (boxB b1).2; have BW2 : Hid _ := BX; obtain ⟨e0, e1, e2, e3, e4, e5⟩ := HS.out _ BX; clear BX b1))
    | (go_at_call 40; refine Calls.mono (HK.out _) ?_; rintro e x2 ⟨rfl, b2⟩; first | (have BX : Below W.heap.size W x2 := Below.up BW2.out (Nat.le_refl _) b2; have MD2 : Hid (Mut x2 W.heap.size 0 6 Z) := MutK.below MD.out b2 (cell_lt (MutK.cells6 MD.out).1); have BW3 : Hid _ := BX; obtain ⟨m0, m1, m2, m3, m4, m5⟩ := MutK.cells6 MD2.out; obtain ⟨n0, n1, n2, n3, n4, n5⟩ := MutK.free6 MD2.out; clear BX b2) | (have BX : Below W.heap.size W x2 := Below.up BW2.out (Nat.le_refl _) (boxA b2).1; have MD2 : Hid (Mut x2 x1.heap.size 0 6 Z) := (boxA b2).2; have BW3 : Hid _ := BX; obtain ⟨m0, m1, m2, m3, m4, m5⟩ := MutK.cells6 MD2.out; obtain ⟨n0, n1, n2, n3, n4, n5⟩ := MutK.free6 MD2.out; clear BX b2) | (have BX : Below W.heap.size W x2 := Below.up BW2.out (Nat.le_refl _) b2; have BW3 : Hid _ := BX; clear BX b2)))
  all_goals
    first
    | (have q := finB (b := W.heap.size) h BW3.out (by with_reducible exact MD2.out) (Nat.le_refl _); generalize (((((x2.setCell ⟨W.heap.size, 0, none⟩ (.int .u64 (h 0))).setCell ⟨W.heap.size, 1, none⟩ (.int .u64 (h 1))).setCell ⟨W.heap.size, 2, none⟩ (.int .u64 (h 2))).setCell ⟨W.heap.size, 3, none⟩ (.int .u64 (h 3))).setCell ⟨W.heap.size, 4, none⟩ (.int .u64 (h 4))).setCell ⟨W.heap.size, 5, none⟩ (.int .u64 (h 5)) = V at q ⊢; obtain ⟨bv, mv⟩ := q; obtain ⟨v0, v1, v2, v3, v4, v5⟩ := MutK.cells6 mv; clear mv)
    | (have q := finB (b := x1.heap.size) h BW3.out (by with_reducible exact MD2.out) (Below.size BW2.out); generalize (((((x2.setCell ⟨x1.heap.size, 0, none⟩ (.int .u64 (h 0))).setCell ⟨x1.heap.size, 1, none⟩ (.int .u64 (h 1))).setCell ⟨x1.heap.size, 2, none⟩ (.int .u64 (h 2))).setCell ⟨x1.heap.size, 3, none⟩ (.int .u64 (h 3))).setCell ⟨x1.heap.size, 4, none⟩ (.int .u64 (h 4))).setCell ⟨x1.heap.size, 5, none⟩ (.int .u64 (h 5)) = V at q ⊢; obtain ⟨bv, mv⟩ := q; obtain ⟨v0, v1, v2, v3, v4, v5⟩ := MutK.cells6 mv; clear mv)
    | (have q := finA (t := 24) h BW3.out; generalize x2.alloc (.cells #[.int .u64 (h 0), .int .u64 (h 1), .int .u64 (h 2), .int .u64 (h 3), .int .u64 (h 4), .int .u64 (h 5)] 24) = V at q ⊢; obtain ⟨bv, mv⟩ := q; obtain ⟨v0, v1, v2, v3, v4, v5⟩ := MutK.cells6 mv; clear mv)
    have HB : Hid _ := Below.up B1'.out (Nat.le_refl _) bv
    obtain ⟨r0, r1, r2, r3, r4, r5⟩ := MutK.cells6 (MutK.below HF.out bv lt1)
    obtain ⟨y0, y1, y2, y3, y4, y5⟩ := MutK.cells6 (MutK.below HR.out bv lt0)
    obtain ⟨z0, z1, z2, z3, z4, z5⟩ := MutK.free6 (MutK.below HR.out bv lt0)
    clear bv HS HR HF Z1 BW2 BW3 a0 a1 a2 a3 a4 a5 e0 e1 e2 e3 e4 e5 HK
    rcases hc.out with ⟨rfl, rfl⟩ | ⟨rfl, rfl⟩
    · go_wp2
      refine bodyPost_ret (v := .agg #[.int .u64 (k 0), .int .u64 (k 1), .int .u64 (k 2), .int .u64 (k 3), .int .u64 (k 4), .int .u64 (k 5)]) (by simp [results, Tryd.results42, go_sem, y0, y1, y2, y3, y4, y5]) rfl ⟨rfl, ?_⟩
      exact below_set6 HB.out (by omega) _ _ _ _ _ _
    · go_wp2
      refine bodyPost_ret (v := .agg #[.int .u64 (k 0), .int .u64 (k 1), .int .u64 (k 2), .int .u64 (k 3), .int .u64 (k 4), .int .u64 (k 5)]) (by simp [results, Tryd.results42, go_sem, y0, y1, y2, y3, y4, y5]) rfl ⟨rfl, ?_⟩
      exact below_set6 HB.out (by omega) _ _ _ _ _ _
end Go.Proofs.YtgdmjngajjoliaaDoor.fpn
