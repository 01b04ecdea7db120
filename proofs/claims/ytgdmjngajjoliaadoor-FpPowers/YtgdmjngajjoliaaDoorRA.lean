/- How two scalars are compared; what the document's InvR, RootR and WideR answer. -/
import Derived.Test.YtgdmjngajjoliaaDoorQZ
import Derived.Laws.StructEq
namespace Go.Proofs.YtgdmjngajjoliaaDoor.fpn
open Go.RowKit
attribute [local go_sem ↓] Go.wp_at_zero Go.wp_at_succ
set_option linter.unusedVariables false

theorem invR_zero (f : Nat → Int) (w : World) (rf : Rg f 6) (hz : val f 6 = 0) :
    Calls Tryd.prog 28 #[frv f] w fun e w' => e = .returned (.tuple #[frv f, .int .i64 7]) ∧ Below w.heap.size w w' := by
  have E : ∀ w, (Op.equalIn 10000 24 (.agg #[.int .u64 (f 0), .int .u64 (f 1), .int .u64 (f 2), .int .u64 (f 3), .int .u64 (f 4), .int .u64 (f 5)]) (.agg #[.int .u64 0, .int .u64 0, .int .u64 0, .int .u64 0, .int .u64 0, .int .u64 0])).run Tryd.prog w = .ok true w := fun w => by
    have := eqFr_run f Z rf (Z_rg 6) w
    rw [val_Z, decide_eq_true hz] at this
    exact this
  unfold frv
  go_enter Tryd.func28, Tryd.ntmps28
  go_wp2
  refine bodyPost_ret (v := .tuple #[.agg #[.int .u64 (f 0), .int .u64 (f 1), .int .u64 (f 2), .int .u64 (f 3), .int .u64 (f 4), .int .u64 (f 5)], .int .i64 7]) (by simp [results, Tryd.results28, go_sem]) rfl ⟨rfl, below_two _ _ _⟩

theorem invR_any (f : Nat → Int) (w : World) (rf : Rg f 6) (lf : val f 6 < RI) (hz : val f 6 ≠ 0) :
    Calls Tryd.prog 28 #[frv f] w fun e w' => ∃ v, e = .returned (.tuple #[v, .int .i64 0]) ∧ IsFr v (val f 6 ^ (RN - 2) % RI) ∧ Below w.heap.size w w' := by
  have E : ∀ w, (Op.equalIn 10000 24 (.agg #[.int .u64 (f 0), .int .u64 (f 1), .int .u64 (f 2), .int .u64 (f 3), .int .u64 (f 4), .int .u64 (f 5)]) (.agg #[.int .u64 0, .int .u64 0, .int .u64 0, .int .u64 0, .int .u64 0, .int .u64 0])).run Tryd.prog w = .ok false w := fun w => by
    have := eqFr_run f Z rf (Z_rg 6) w
    rw [val_Z, decide_eq_false hz] at this
    exact this
  unfold frv
  obtain ⟨B1, z1, hF, hR⟩ := pair_all w f 24
  unfold pair at B1 z1 hF hR
  have HZ : Hid _ := hz
  have LF : Hid _ := lf
  clear hz lf
  go_enter Tryd.func28, Tryd.ntmps28
  go_wp2_with fail
  generalize (w.alloc (.cells #[.int .u64 (f 0), .int .u64 (f 1), .int .u64 (f 2), .int .u64 (f 3), .int .u64 (f 4), .int .u64 (f 5)] 24)).alloc (.cells #[.int .u64 0, .int .u64 0, .int .u64 0, .int .u64 0, .int .u64 0, .int .u64 0] 24) = W at *
  refine Calls.mono (refR_any _) ?_
  rintro e w2 ⟨rfl, b2, -, m2⟩
  have b3 := Below.up B1 (Nat.le_refl _) b2
  have c2 := below_one w2 (.cells #[.int .u64 2] 22)
  have K1 : Hid _ := refLess_any (some ⟨W.heap.size, 0, none⟩) (some ⟨w2.heap.size, 0, none⟩) 6 1 6 1 rL (one 2) _ (by omega) (by omega) (by omega) (by omega) (m2.at.below c2) (at_one w2 2 22) rL_rg (one_rg ⟨by decide, by rw [B64_eq]; decide⟩ 1) (by rw [rL_val, val_one]; decide) (by omega) (by omega)
  have b4 := Below.up b2 (Nat.le_refl _) c2
  have hF2 := hF.below b4 (by rw [z1]; omega)
  have hR2 := hR.below b4 (by rw [z1]; omega)
  have HB4 : Hid _ := Below.up B1 (Nat.le_refl _) b4
  have HLW : Hid (w.heap.size + 2 ≤ (w2.alloc (.cells #[.int .u64 2] 22)).heap.size) := by have := b4.size; show _ ≤ _; omega
  clear b3 b2 m2 b4 hF hR B1 z1 c2
  go_wp2_with fail
  generalize w2.alloc (.cells #[.int .u64 2] 22) = w3 at *
  refine Calls.mono K1.out ?_
  rintro e w4 ⟨v, rfl, b5, p, n, c, h, rfl, l1, l2, l3, a4, r4, -, v4⟩
  rw [rL_val, val_one] at v4
  have hF3 := hF2.below b5 (by have := HLW.out; omega)
  have hR3 := hR2.below b5 (by have := HLW.out; omega)
  obtain ⟨x0, x1, x2, x3, x4, x5⟩ := hF3.cells6
  have P1 : Hid _ := powR_any f p n c h (RN - 2) w4 rf LF.out (by omega) a4 r4 (by rw [v4, RI_RN]; rfl)
  unfold frv at P1
  have HB5 : Hid _ := Below.up HB4.out (Nat.le_refl _) b5
  have HL5 : Hid (w.heap.size + 2 ≤ w4.heap.size) := by have := b5.size; have := HLW.out; show _ ≤ _; omega
  have HR3 : Hid _ := hR3
  clear b5 a4 r4 v4 hF2 hR2 hF3 hR3 K1 HB4 HLW l1 l2 l3
  go_wp2_with fail
  refine Calls.mono P1.out ?_
  rintro e w5 ⟨v, rfl, ⟨h3, rfl, r3, v3⟩, b5⟩
  obtain ⟨y0, y1, y2, y3, y4, y5⟩ := (MutK.below HR3.out b5 (by have := HL5.out; omega)).cells6
  obtain ⟨z0, z1, z2, z3, z4, z5⟩ := (MutK.below HR3.out b5 (by have := HL5.out; omega)).free6
  have HB6 : Hid _ := Below.up HB5.out (Nat.le_refl _) b5
  have R3 : Hid _ := r3
  have V3 : Hid _ := v3
  clear b5 r3 v3 x0 x1 x2 x3 x4 x5
  go_wp2
  refine bodyPost_ret (v := .tuple #[.agg #[.int .u64 (h3 0), .int .u64 (h3 1), .int .u64 (h3 2), .int .u64 (h3 3), .int .u64 (h3 4), .int .u64 (h3 5)], .int .i64 0]) (by simp [results, Tryd.results28, go_sem, y0, y1, y2, y3, y4, y5]) rfl ⟨_, rfl, ⟨h3, rfl, R3.out, V3.out⟩, ?_⟩
  exact below_set6 HB6.out (by omega) _ _ _ _ _ _

end Go.Proofs.YtgdmjngajjoliaaDoor.fpn
