/- What the statements' own begun, rest and sameLimbs answer, package fp answering as it should. -/
import Derived.Test.YtgdmjngajjoliaaDoorSB
namespace Go.Proofs.YtgdmjngajjoliaaDoor.fpn
open Go.RowKit
attribute [local go_sem ↓] Go.wp_at_zero Go.wp_at_succ
set_option linter.unusedVariables false

/-- Two scalars that are one number are alike. -/
theorem eq_yes {f g : Nat → Int} (rf : Rg f 6) (rg : Rg g 6) (h : val f 6 = val g 6) (w : World) : (Op.equalIn 10000 24 (.agg #[.int .u64 (f 0), .int .u64 (f 1), .int .u64 (f 2), .int .u64 (f 3), .int .u64 (f 4), .int .u64 (f 5)]) (.agg #[.int .u64 (g 0), .int .u64 (g 1), .int .u64 (g 2), .int .u64 (g 3), .int .u64 (g 4), .int .u64 (g 5)])).run Tryd.prog w = .ok true w := by
  rw [eqFr_run f g rf rg, decide_eq_true h]
theorem eq_no {f g : Nat → Int} (rf : Rg f 6) (rg : Rg g 6) (h : val f 6 ≠ val g 6) (w : World) : (Op.equalIn 10000 24 (.agg #[.int .u64 (f 0), .int .u64 (f 1), .int .u64 (f 2), .int .u64 (f 3), .int .u64 (f 4), .int .u64 (f 5)]) (.agg #[.int .u64 (g 0), .int .u64 (g 1), .int .u64 (g 2), .int .u64 (g 3), .int .u64 (g 4), .int .u64 (g 5)])).run Tryd.prog w = .ok false w := by
  rw [eqFr_run f g rf rg, decide_eq_false h]
/-- .. an array literal of one limb. -/
theorem eq_one {f : Nat → Int} {x : Int} (rf : Rg f 6) (hx : 0 ≤ x ∧ x < B64) (h : val f 6 = x) (w : World) : (Op.equalIn 10000 24 (.agg #[.int .u64 (f 0), .int .u64 (f 1), .int .u64 (f 2), .int .u64 (f 3), .int .u64 (f 4), .int .u64 (f 5)]) (.agg #[.int .u64 x, .int .u64 0, .int .u64 0, .int .u64 0, .int .u64 0, .int .u64 0])).run Tryd.prog w = .ok true w :=
  eq_yes (g := one x) rf (one_rg hx 6) (by rw [val_one4]; exact h) w

theorem b64 {x : Int} (h0 : 0 ≤ x) (h1 : x < 1000) : 0 ≤ x ∧ x < B64 := ⟨h0, by rw [B64_eq]; omega⟩

theorem sq_four_ok : sq 4 * sq 4 % RI = 4 ∧ lesser (sq 4) = 2 := by
  rcases sq_four with h | h <;> rw [h] <;> decide +kernel

set_option maxHeartbeats 2000000 in
theorem fpBegun {G : World → Prop} (K : FpOk G) (w : World) (hg : G w) : Calls Tryd.prog 9 #[] w fun e w' => e = .returned (.bool true) ∧ Below w.heap.size w w' := by
  have HK : Hid _ := K
  clear K
  go_enter Tryd.func9, Tryd.ntmps9
  go_wp2_with fail
  refine Calls.mono (FpOk.of HK.out 2 _ hg (b64 (by decide) (by decide))) ?_
  rintro e w1 ⟨h1, rfl, r1, v1, b1⟩
  have g1 := HK.out.stay hg b1
  go_wp2_with fail
  refine Calls.mono (FpOk.inv HK.out h1 _ g1 r1 (by rw [v1]; decide) (by rw [v1]; decide)) ?_
  rintro e w2 ⟨h2, rfl, r2, v2, b2⟩
  have m2 := mut_four w2 h2 24
  have a2 := below_one w2 (.cells #[.int .u64 (h2 0), .int .u64 (h2 1), .int .u64 (h2 2), .int .u64 (h2 3), .int .u64 (h2 4), .int .u64 (h2 5)] 24)
  have z2 := World.size_alloc w2 (.cells #[.int .u64 (h2 0), .int .u64 (h2 1), .int .u64 (h2 2), .int .u64 (h2 3), .int .u64 (h2 4), .int .u64 (h2 5)] 24)
  have c2 := Below.up (Below.up b1 (Nat.le_refl _) b2) (Nat.le_refl _) a2
  have g2 := HK.out.stay hg c2
  clear a2 b1 b2 g1
  rw [v1] at v2
  have l2 : val h2 6 < RI := by rw [v2]; exact modR_lt _
  have i2 := invI (A := 2) (by decide) (by decide) (by decide)
  rw [← v2, Int.mul_comm] at i2
  have V2 : Hid _ := v2
  have I2 : Hid _ := i2
  clear v2 i2
  go_wp2_with fail
  generalize w2.alloc (.cells #[.int .u64 (h2 0), .int .u64 (h2 1), .int .u64 (h2 2), .int .u64 (h2 3), .int .u64 (h2 4), .int .u64 (h2 5)] 24) = W2 at *
  refine Calls.mono (FpOk.of HK.out 4 _ g2 (b64 (by decide) (by decide))) ?_
  rintro e w3 ⟨h0, rfl, r0, v0, b3⟩
  have m2a := m2.below b3 (by rw [z2]; omega)
  have l23 : w2.heap.size < w3.heap.size := by have := b3.size; omega
  have c2a := Below.up c2 (Nat.le_refl _) b3
  have g2a := HK.out.stay hg c2a
  clear m2 c2 g2 b3 z2
  go_wp2_with fail
  refine Calls.mono (FpOk.sqrtYes HK.out h0 _ g2a r0 (by rw [v0]; decide) (by rw [v0]; exact sq_four_ok.1)) ?_
  rintro e w4 ⟨h3, rfl, r3, v3, b4⟩
  rw [v0, sq_four_ok.2] at v3
  have m2b := m2a.below b4 l23
  have m3 := mut_four w4 h3 24
  have a3 := below_one w4 (.cells #[.int .u64 (h3 0), .int .u64 (h3 1), .int .u64 (h3 2), .int .u64 (h3 3), .int .u64 (h3 4), .int .u64 (h3 5)] 24)
  have z3 := World.size_alloc w4 (.cells #[.int .u64 (h3 0), .int .u64 (h3 1), .int .u64 (h3 2), .int .u64 (h3 3), .int .u64 (h3 4), .int .u64 (h3 5)] 24)
  have lw : w2.heap.size < w4.heap.size := by have := b4.size; omega
  have m4 := m2b.below a3 lw
  have c3 := Below.up (Below.up c2a (Nat.le_refl _) b4) (Nat.le_refl _) a3
  have g3 := HK.out.stay hg c3
  clear a3 b4 c2a m2a m2b l23 g2a v0 r0
  have V3 : Hid _ := v3
  clear v3
  go_wp2_with fail
  generalize w4.alloc (.cells #[.int .u64 (h3 0), .int .u64 (h3 1), .int .u64 (h3 2), .int .u64 (h3 3), .int .u64 (h3 4), .int .u64 (h3 5)] 24) = W at *
  have HS : Hid (∀ x, Below W.heap.size W x → (x.cell? ⟨w2.heap.size, 0, none⟩ = some (.int .u64 (h2 0)) ∧ x.cell? ⟨w2.heap.size, 1, none⟩ = some (.int .u64 (h2 1)) ∧ x.cell? ⟨w2.heap.size, 2, none⟩ = some (.int .u64 (h2 2)) ∧ x.cell? ⟨w2.heap.size, 3, none⟩ = some (.int .u64 (h2 3)) ∧ x.cell? ⟨w2.heap.size, 4, none⟩ = some (.int .u64 (h2 4)) ∧ x.cell? ⟨w2.heap.size, 5, none⟩ = some (.int .u64 (h2 5))) ∧ (x.cell? ⟨w4.heap.size, 0, none⟩ = some (.int .u64 (h3 0)) ∧ x.cell? ⟨w4.heap.size, 1, none⟩ = some (.int .u64 (h3 1)) ∧ x.cell? ⟨w4.heap.size, 2, none⟩ = some (.int .u64 (h3 2)) ∧ x.cell? ⟨w4.heap.size, 3, none⟩ = some (.int .u64 (h3 3)) ∧ x.cell? ⟨w4.heap.size, 4, none⟩ = some (.int .u64 (h3 4)) ∧ x.cell? ⟨w4.heap.size, 5, none⟩ = some (.int .u64 (h3 5)))) := fun x hx => ⟨(m4.below hx (by omega)).cells6, (m3.below hx (by omega)).cells6⟩
  have C3 : Hid _ := c3
  have BW : Hid (Below W.heap.size W W.drew) := (Below.refl _ _).drew
  have GW : Hid _ := g3
  have T1 : Hid True := trivial
  have T2 : Hid True := trivial
  have T3 : Hid True := trivial
  have T4 : Hid True := trivial
  have T5 : Hid True := trivial
  have T6 : Hid True := trivial
  have T7 : Hid True := trivial
  clear m4 m3 c3 z3 lw g3
  go_region_held3 (fun x => (x.cell? ⟨w2.heap.size, 0, none⟩ = some (.int .u64 (h2 0)) ∧ x.cell? ⟨w2.heap.size, 1, none⟩ = some (.int .u64 (h2 1)) ∧ x.cell? ⟨w2.heap.size, 2, none⟩ = some (.int .u64 (h2 2)) ∧ x.cell? ⟨w2.heap.size, 3, none⟩ = some (.int .u64 (h2 3)) ∧ x.cell? ⟨w2.heap.size, 4, none⟩ = some (.int .u64 (h2 4)) ∧ x.cell? ⟨w2.heap.size, 5, none⟩ = some (.int .u64 (h2 5))) ∧ (x.cell? ⟨w4.heap.size, 0, none⟩ = some (.int .u64 (h3 0)) ∧ x.cell? ⟨w4.heap.size, 1, none⟩ = some (.int .u64 (h3 1)) ∧ x.cell? ⟨w4.heap.size, 2, none⟩ = some (.int .u64 (h3 2)) ∧ x.cell? ⟨w4.heap.size, 3, none⟩ = some (.int .u64 (h3 3)) ∧ x.cell? ⟨w4.heap.size, 4, none⟩ = some (.int .u64 (h3 4)) ∧ x.cell? ⟨w4.heap.size, 5, none⟩ = some (.int .u64 (h3 5))))
    (exact HS.out _ BW.out)
    (first
    | (clear T1; go_at_call 21; refine Calls.mono (FpOk.of HK.out 2 _ (HK.out.stay GW.out BW.out) (b64 (by decide) (by decide))) ?_; rintro e x4 ⟨h4, rfl, r4, v4, b4⟩; have BX := Below.up BW.out (Nat.le_refl _) b4; clear BW; have BW : Hid _ := BX; clear BX; have V4 : Hid _ := v4; clear b4 v4)
    | (clear T2; go_at_call 18; refine Calls.mono (FpOk.mul HK.out h2 h4 _ (HK.out.stay GW.out BW.out) r2 r4 l2 (by rw [V4.out]; decide)) ?_; rintro e x5 ⟨h5, rfl, r5, v5, b5⟩; have BX := Below.up BW.out (Nat.le_refl _) b5; clear BW; have BW : Hid _ := BX; clear BX; rw [V4.out, I2.out] at v5; have V5 : Hid _ := v5; clear b5 v5)
    | (clear T3; go_at_call 21; refine Calls.mono (FpOk.of HK.out 1 _ (HK.out.stay GW.out BW.out) (b64 (by decide) (by decide))) ?_; rintro e x6 ⟨h6, rfl, r6, v6, b6⟩; have BX := Below.up BW.out (Nat.le_refl _) b6; clear BW; have BW : Hid _ := BX; clear BX; have E1 := eq_yes r5 r6 (V5.out.trans v6.symm); clear b6 v6)
    | (clear T4; go_at_call 21; refine Calls.mono (FpOk.of HK.out 2 _ (HK.out.stay GW.out BW.out) (b64 (by decide) (by decide))) ?_; rintro e x7 ⟨h7, rfl, r7, v7, b7⟩; have BX := Below.up BW.out (Nat.le_refl _) b7; clear BW; have BW : Hid _ := BX; clear BX; have E2 := eq_yes r3 r7 (V3.out.trans v7.symm); clear b7 v7)
    | (clear T5; go_at_call 21; refine Calls.mono (FpOk.of HK.out 3 _ (HK.out.stay GW.out BW.out) (b64 (by decide) (by decide))) ?_; rintro e x9 ⟨h9, rfl, r9, v9, b9⟩; have BX := Below.up BW.out (Nat.le_refl _) b9; clear BW; have BW : Hid _ := BX; clear BX; have E3 := eq_one r9 (b64 (by decide) (by decide)) v9; clear b9 v9)
    | (clear T6; go_at_call 11; refine Calls.mono (FpOk.may HK.out h2 _ (HK.out.stay GW.out BW.out) r2) ?_; rw [decide_eq_true l2]; rintro e x10 ⟨rfl, b10⟩; have BX := Below.up BW.out (Nat.le_refl _) b10; clear BW; have BW : Hid _ := BX; clear BX; clear b10)
    | (clear T7; go_at_call 25; refine Calls.mono (FpOk.r HK.out _ (HK.out.stay GW.out BW.out)) ?_; rintro e x11 ⟨p11, c11, rfl, -, -, -, b11⟩; have BX := Below.up BW.out (Nat.le_refl _) b11; clear BW; have BW : Hid _ := BX; clear BX; clear b11))
  all_goals
    go_wp2
    go_ret
    exact ⟨rfl, Below.up C3.out (Nat.le_refl _) BW.out⟩
end Go.Proofs.YtgdmjngajjoliaaDoor.fpn
