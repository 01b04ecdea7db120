/- May. -/
import Derived.Test.YtgdmjngajjoliaaDoorZT
namespace Go.Proofs.YtgdmjngajjoliaaDoor.fpn
open Go.RowKit
attribute [local go_sem ↓] Go.wp_at_zero Go.wp_at_succ
set_option linter.unusedVariables false

set_option maxHeartbeats 4000000 in
theorem may_at (f h : Nat → Int) (c : Int) (r : Bool) (w : World) (K : ∀ w, Calls Tryd.prog 40 #[.agg #[.int .u64 (f 0), .int .u64 (f 1), .int .u64 (f 2), .int .u64 (f 3), .int .u64 (f 4), .int .u64 (f 5)], .agg #[.int .u64 (rL 0), .int .u64 (rL 1), .int .u64 (rL 2), .int .u64 (rL 3), .int .u64 (rL 4), .int .u64 (rL 5)]] w fun e w' => e = .returned (.tuple #[.agg #[.int .u64 (h 0), .int .u64 (h 1), .int .u64 (h 2), .int .u64 (h 3), .int .u64 (h 4), .int .u64 (h 5)], .int .u64 c]) ∧ Below w.heap.size w w') (hc : Hid ((c = 0 ∧ r = false) ∨ (c = 1 ∧ r = true))) :
    Calls Tryd.prog 11 #[.agg #[.int .u64 (f 0), .int .u64 (f 1), .int .u64 (f 2), .int .u64 (f 3), .int .u64 (f 4), .int .u64 (f 5)]] w fun e w' => e = .returned (.bool r) ∧ Below w.heap.size w w' := by
  have HK : Hid _ := K
  clear K
  have B1 := below_one w (.cells #[.int .u64 (f 0), .int .u64 (f 1), .int .u64 (f 2), .int .u64 (f 3), .int .u64 (f 4), .int .u64 (f 5)] 24)
  have hF := mut_four w f 24
  have z1 := World.size_alloc w (.cells #[.int .u64 (f 0), .int .u64 (f 1), .int .u64 (f 2), .int .u64 (f 3), .int .u64 (f 4), .int .u64 (f 5)] 24)
  go_enter Tryd.func11, Tryd.ntmps11
  go_wp2_with fail
  generalize w.alloc (.cells #[.int .u64 (f 0), .int .u64 (f 1), .int .u64 (f 2), .int .u64 (f 3), .int .u64 (f 4), .int .u64 (f 5)] 24) = W at *
  have HS : Hid (∀ x, Below W.heap.size W x → (x.cell? ⟨w.heap.size, 0, none⟩ = some (.int .u64 (f 0)) ∧ x.cell? ⟨w.heap.size, 1, none⟩ = some (.int .u64 (f 1)) ∧ x.cell? ⟨w.heap.size, 2, none⟩ = some (.int .u64 (f 2)) ∧ x.cell? ⟨w.heap.size, 3, none⟩ = some (.int .u64 (f 3)) ∧ x.cell? ⟨w.heap.size, 4, none⟩ = some (.int .u64 (f 4)) ∧ x.cell? ⟨w.heap.size, 5, none⟩ = some (.int .u64 (f 5)))) := fun x hx => at6 (hF.at.below hx)
  have B1' : Hid _ := B1
  have lt1 : w.heap.size < W.heap.size := by rw [z1]; omega
  clear hF B1 z1
  obtain ⟨a0, a1, a2, a3, a4, a5⟩ := HS.out _ (Below.refl _ _)
  go_region_with (first
    | (go_at_call 41; refine Calls.mono (prime_any _) ?_; rintro e x1 ⟨rfl, b1⟩; first | (have BX : Below W.heap.size W x1 := below_drew b1; have lt2 : w.heap.size < x1.heap.size := Nat.lt_of_lt_of_le lt1 BX.size; have BW2 : Hid _ := BX; obtain ⟨e0, e1, e2, e3, e4, e5⟩ := HS.out _ BX; clear BX b1) | (have BX : Below W.heap.size W x1 := (boxB b1).1; have lt2 : w.heap.size < x1.heap.size := Nat.lt_of_lt_of_le lt1 BX.size; have MD : Hid (Mut x1 W.heap.size 0 6 Z) := (boxB b1).2; have BW2 : Hid _ := BX; obtain ⟨e0, e1, e2, e3, e4, e5⟩ := HS.out _ BX; clear BX b1))
    | (go_at_call 40; refine Calls.mono (HK.out _) ?_; rintro e x2 ⟨rfl, b2⟩; first | (have BX : Below W.heap.size W x2 := Below.up BW2.out (Nat.le_refl _) b2; have MD2 : Hid (Mut x2 W.heap.size 0 6 Z) := MutK.below MD.out b2 (cell_lt (MutK.cells6 MD.out).1); have BW3 : Hid _ := BX; obtain ⟨m0, m1, m2, m3, m4, m5⟩ := MutK.cells6 MD2.out; obtain ⟨n0, n1, n2, n3, n4, n5⟩ := MutK.free6 MD2.out; clear BX b2) | (have BX : Below W.heap.size W x2 := Below.up BW2.out (Nat.le_refl _) (boxA b2).1; have MD2 : Hid (Mut x2 x1.heap.size 0 6 Z) := (boxA b2).2; have BW3 : Hid _ := BX; obtain ⟨m0, m1, m2, m3, m4, m5⟩ := MutK.cells6 MD2.out; obtain ⟨n0, n1, n2, n3, n4, n5⟩ := MutK.free6 MD2.out; clear BX b2) | (have BX : Below W.heap.size W x2 := Below.up BW2.out (Nat.le_refl _) b2; have BW3 : Hid _ := BX; clear BX b2)))
  all_goals
    first
    | (have q := finB (b := W.heap.size) h BW3.out (by with_reducible exact MD2.out) (Nat.le_refl _); generalize (((((x2.setCell ⟨W.heap.size, 0, none⟩ (.int .u64 (h 0))).setCell ⟨W.heap.size, 1, none⟩ (.int .u64 (h 1))).setCell ⟨W.heap.size, 2, none⟩ (.int .u64 (h 2))).setCell ⟨W.heap.size, 3, none⟩ (.int .u64 (h 3))).setCell ⟨W.heap.size, 4, none⟩ (.int .u64 (h 4))).setCell ⟨W.heap.size, 5, none⟩ (.int .u64 (h 5)) = V at q ⊢; obtain ⟨bv, mv⟩ := q; obtain ⟨v0, v1, v2, v3, v4, v5⟩ := MutK.cells6 mv; have HV : Hid (∀ x, Below V.heap.size V x → (x.cell? ⟨W.heap.size, 0, none⟩ = some (.int .u64 (h 0)) ∧ x.cell? ⟨W.heap.size, 1, none⟩ = some (.int .u64 (h 1)) ∧ x.cell? ⟨W.heap.size, 2, none⟩ = some (.int .u64 (h 2)) ∧ x.cell? ⟨W.heap.size, 3, none⟩ = some (.int .u64 (h 3)) ∧ x.cell? ⟨W.heap.size, 4, none⟩ = some (.int .u64 (h 4)) ∧ x.cell? ⟨W.heap.size, 5, none⟩ = some (.int .u64 (h 5)))) := fun x hx => at6 (mv.at.below hx); clear mv)
    | (have q := finB (b := x1.heap.size) h BW3.out (by with_reducible exact MD2.out) (Below.size BW2.out); generalize (((((x2.setCell ⟨x1.heap.size, 0, none⟩ (.int .u64 (h 0))).setCell ⟨x1.heap.size, 1, none⟩ (.int .u64 (h 1))).setCell ⟨x1.heap.size, 2, none⟩ (.int .u64 (h 2))).setCell ⟨x1.heap.size, 3, none⟩ (.int .u64 (h 3))).setCell ⟨x1.heap.size, 4, none⟩ (.int .u64 (h 4))).setCell ⟨x1.heap.size, 5, none⟩ (.int .u64 (h 5)) = V at q ⊢; obtain ⟨bv, mv⟩ := q; obtain ⟨v0, v1, v2, v3, v4, v5⟩ := MutK.cells6 mv; have HV : Hid (∀ x, Below V.heap.size V x → (x.cell? ⟨x1.heap.size, 0, none⟩ = some (.int .u64 (h 0)) ∧ x.cell? ⟨x1.heap.size, 1, none⟩ = some (.int .u64 (h 1)) ∧ x.cell? ⟨x1.heap.size, 2, none⟩ = some (.int .u64 (h 2)) ∧ x.cell? ⟨x1.heap.size, 3, none⟩ = some (.int .u64 (h 3)) ∧ x.cell? ⟨x1.heap.size, 4, none⟩ = some (.int .u64 (h 4)) ∧ x.cell? ⟨x1.heap.size, 5, none⟩ = some (.int .u64 (h 5)))) := fun x hx => at6 (mv.at.below hx); clear mv)
    | (have q := finA (t := 24) h BW3.out; generalize x2.alloc (.cells #[.int .u64 (h 0), .int .u64 (h 1), .int .u64 (h 2), .int .u64 (h 3), .int .u64 (h 4), .int .u64 (h 5)] 24) = V at q ⊢; obtain ⟨bv, mv⟩ := q; obtain ⟨v0, v1, v2, v3, v4, v5⟩ := MutK.cells6 mv; have HV : Hid (∀ x, Below V.heap.size V x → (x.cell? ⟨x2.heap.size, 0, none⟩ = some (.int .u64 (h 0)) ∧ x.cell? ⟨x2.heap.size, 1, none⟩ = some (.int .u64 (h 1)) ∧ x.cell? ⟨x2.heap.size, 2, none⟩ = some (.int .u64 (h 2)) ∧ x.cell? ⟨x2.heap.size, 3, none⟩ = some (.int .u64 (h 3)) ∧ x.cell? ⟨x2.heap.size, 4, none⟩ = some (.int .u64 (h 4)) ∧ x.cell? ⟨x2.heap.size, 5, none⟩ = some (.int .u64 (h 5)))) := fun x hx => at6 (mv.at.below hx); clear mv)
    have HB : Hid _ := Below.up B1'.out (Nat.le_refl _) bv
    clear bv HS BW2 BW3 a0 a1 a2 a3 a4 a5 e0 e1 e2 e3 e4 e5 HK HV
    rcases hc.out with ⟨rfl, rfl⟩ | ⟨rfl, rfl⟩
    · go_wp2
      go_ret
      exact ⟨rfl, HB.out⟩
    · go_wp2
      go_ret
      exact ⟨rfl, HB.out⟩

theorem frMay_any (f : Nat → Int) (w : World) (rf : Rg f 6) : Calls Tryd.prog 11 #[.agg #[.int .u64 (f 0), .int .u64 (f 1), .int .u64 (f 2), .int .u64 (f 3), .int .u64 (f 4), .int .u64 (f 5)]] w fun e w' => e = .returned (.bool (decide (val f 6 < RI))) ∧ Below w.heap.size w w' := by
  have v1 := lessR_val rf
  have d1 := val_bd (df_rg f rL 6)
  have d0 := val_bd rf
  have hb := bw_bd f rL 6
  refine may_at f (df f rL) (bw f rL 6) _ w (fun w => less_any f rL w rf rL_rg) ?_
  show _ ∨ _
  rcases (show bw f rL 6 = 0 ∨ bw f rL 6 = 1 by omega) with e | e
  · left; rw [e] at v1; exact ⟨e, decide_eq_false (by omega)⟩
  · right; rw [e] at v1; exact ⟨e, decide_eq_true (by omega)⟩

end Go.Proofs.YtgdmjngajjoliaaDoor.fpn
