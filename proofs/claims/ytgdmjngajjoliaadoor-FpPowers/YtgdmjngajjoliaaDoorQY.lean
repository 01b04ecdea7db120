/- What the document's MulR answers: the product modulo R, by Montgomery's way twice. -/
import Derived.Test.YtgdmjngajjoliaaDoorQX
import Derived.Test.YtgdmjngajjoliaaDoorWY
namespace Go.Proofs.YtgdmjngajjoliaaDoor.fpn
open Go.RowKit
attribute [local go_sem ↓] Go.wp_at_zero Go.wp_at_succ
set_option linter.unusedVariables false

theorem twice {A B r s : Int} (h1 : r * pw 6 % RI = A * B % RI) (h2 : s * pw 6 % RI = r * val cL 6 % RI) (hs : 0 ≤ s ∧ s < RI) : s = A * B % RI := by
  have e1 : s * pw 6 % RI = (A * B) * pw 6 % RI := by
    rw [h2, ← mul_mod_r r, cL_val, mul_mod_r, ← Int.mul_assoc, ← mul_mod_l, h1, mul_mod_l]
  have e2 : s * pw 6 * uI % RI = (A * B) * pw 6 * uI % RI := by rw [← mul_mod_l, e1, mul_mod_l]
  have e3 : pw 6 * uI % RI = 1 := by decide +kernel
  rw [Int.mul_assoc, ← mul_mod_r, e3, Int.mul_assoc (A * B), ← mul_mod_r (A * B), e3, Int.mul_one, Int.mul_one] at e2
  rw [← e2]; exact (Int.emod_eq_of_lt hs.1 hs.2).symm

theorem lit_da (w : World) (t : TypeId) : At (w.drew.alloc (.cells #[.int .u64 17644856173732828998, .int .u64 754043588434789617, .int .u64 10224657059481499349, .int .u64 7488229067341005760, .int .u64 11130996698012816685, .int .u64 1267921511277847466] t)) (some ⟨w.heap.size, 0, none⟩) 6 cL := (mut_four w.drew cL t).at
theorem lit_a (w : World) (t : TypeId) : At (w.alloc (.cells #[.int .u64 17644856173732828998, .int .u64 754043588434789617, .int .u64 10224657059481499349, .int .u64 7488229067341005760, .int .u64 11130996698012816685, .int .u64 1267921511277847466] t)) (some ⟨w.heap.size, 0, none⟩) 6 cL := (mut_four w cL t).at

theorem mulR_any (f g : Nat → Int) (w : World) (rf : Rg f 6) (rg : Rg g 6) (lg : val g 6 < RI) :
    Calls Tryd.prog 53 #[frv f, frv g] w fun e w' => ∃ v, e = .returned v ∧ IsFr v ((val f 6 * val g 6) % RI) ∧ Below w.heap.size w w' := by
  unfold frv
  have LG : Hid (val g 6 < val rL 6) := by show _ < _; rw [rL_val]; exact lg
  clear lg
  obtain ⟨B1, z1, hF, hG, hR⟩ := three_all w f g 24
  unfold three at B1 z1 hF hG hR
  go_enter Tryd.func53, Tryd.ntmps53
  go_wp2_with fail
  generalize ((w.alloc (.cells #[.int .u64 (f 0), .int .u64 (f 1), .int .u64 (f 2), .int .u64 (f 3), .int .u64 (f 4), .int .u64 (f 5)] 24)).alloc (.cells #[.int .u64 (g 0), .int .u64 (g 1), .int .u64 (g 2), .int .u64 (g 3), .int .u64 (g 4), .int .u64 (g 5)] 24)).alloc (.cells #[.int .u64 0, .int .u64 0, .int .u64 0, .int .u64 0, .int .u64 0, .int .u64 0] 24) = W at *
  refine Calls.mono (refR_any _) ?_
  rintro e w2 ⟨rfl, b2, -, m2⟩
  have HB1 : Hid _ := Below.up B1 (Nat.le_refl _) b2
  have HF : Hid _ := hF.below b2
  have HG : Hid _ := hG.below b2
  have HM : Hid _ := m2.at
  have HR : Hid _ := hR.below b2 (by rw [z1]; omega)
  have HL : Hid (w.heap.size + 2 < w2.heap.size) := by have := b2.size; show _ < _; omega
  clear B1 z1 hF hG hR b2 m2
  generalize W.heap.size = sm at *
  go_wp2_with fail
  go_region_with (first
    | (go_at_call_of 67 (Value.slice (some ⟨w.heap.size, 0, none⟩) 6 6); refine Calls.mono (mont_any _ _ _ 6 6 6 6 f g rL _ (by omega) (by omega) ?_ ?_ ?_ rf rg rL_rg LG.out rL_inv) ?_; (first | exact HF.out | exact AtK.below HF.out (below_da _ _)); (first | exact HG.out | exact AtK.below HG.out (below_da _ _)); (first | exact HM.out | exact AtK.below HM.out (below_da _ _)); rintro e w3 ⟨v3, r, rfl, fx, lr, mr⟩; obtain ⟨b3, p3, c3, h3, rfl, a3, r3, v3⟩ := fx.fp6; (first | (have HC3 : Hid (At w3 (some ⟨w2.heap.size, 0, none⟩) 6 cL) := AtK.below (lit_da _ _) b3) | skip); have HB3 : Hid (Below w2.heap.size w2 w3) := (by first | exact below_drew b3 | exact below_of_da b3); have A3 : Hid _ := a3; have R3 : Hid _ := r3; have V3 : Hid _ := v3; have MR : Hid _ := mr; clear b3 a3 r3 v3 fx lr mr)
    | (go_at_call 67; refine Calls.mono (mont_any p3 _ _ 6 c3 6 6 h3 cL rL _ (by omega) (by omega) ?_ ?_ ?_ R3.out cL_rg rL_rg cL_lt rL_inv) ?_; (first | exact A3.out | exact AtK.below A3.out (below_one _ _)); (first | exact HC3.out | exact lit_a _ _); (first | exact AtK.below HM.out HB3.out | exact AtK.below HM.out (Below.up HB3.out (Nat.le_refl _) (below_one _ _))); rintro e w4 ⟨v4, s, rfl, fx4, lr4, mr4⟩; obtain ⟨b4, p4, c4, h4, rfl, a4, r4, v4⟩ := fx4.fp6; have HB4 : Hid (Below w2.heap.size w2 w4) := (by first | exact Below.up HB3.out (Nat.le_refl _) b4 | exact Below.up (Below.up HB3.out (Nat.le_refl _) (below_one _ _)) (Nat.le_refl _) b4); have A4 : Hid _ := a4; have R4 : Hid _ := r4; have V4 : Hid _ := v4; have MR4 : Hid _ := mr4; have LR4 : Hid _ := lr4; clear b4 a4 r4 v4 fx4 mr4 lr4)
    | (go_at_call 44; refine Calls.mono (refFr4_any p4 c4 h4 _ A4.out) ?_; rintro e w5 ⟨rfl, b4⟩; have b5 : Below w2.heap.size w2 w5 := Below.up HB4.out (Nat.le_refl _) b4; obtain ⟨y0, y1, y2, y3, y4, y5⟩ := (MutK.below HR.out b5 HL.out).cells6; obtain ⟨z0, z1, z2, z3, z4, z5⟩ := (MutK.below HR.out b5 HL.out).free6; have HB5 : Hid _ := Below.up HB1.out (Nat.le_refl _) b5; clear b4 b5))
  all_goals
    go_wp2
    refine bodyPost_ret (v := .agg #[.int .u64 (h4 0), .int .u64 (h4 1), .int .u64 (h4 2), .int .u64 (h4 3), .int .u64 (h4 4), .int .u64 (h4 5)]) (by simp [results, Tryd.results53, go_sem, y0, y1, y2, y3, y4, y5]) rfl ⟨_, rfl, ⟨h4, rfl, R4.out, ?_⟩, ?_⟩
    · have k1 := MR.out
      have k2 := MR4.out
      have k3 := LR4.out
      have k4 := (val_bd R4.out).1
      rw [rL_val] at k1 k2 k3
      rw [V4.out] at k4 ⊢
      rw [V3.out] at k2
      exact twice k1 k2 ⟨k4, k3⟩
    · exact below_set6 HB5.out (by omega) _ _ _ _ _ _
end Go.Proofs.YtgdmjngajjoliaaDoor.fpn
