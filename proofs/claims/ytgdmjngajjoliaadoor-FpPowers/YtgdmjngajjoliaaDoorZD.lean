/- Inv. -/
import Derived.Test.YtgdmjngajjoliaaDoorZC
namespace Go.Proofs.YtgdmjngajjoliaaDoor.fpn
open Go.RowKit
attribute [local go_sem ↓] Go.wp_at_zero Go.wp_at_succ
set_option linter.unusedVariables false

theorem frInv_zero (f : Nat → Int) (w : World) (rf : Rg f 6) (hz : val f 6 = 0) : Calls Tryd.prog 27 #[.agg #[.int .u64 (f 0), .int .u64 (f 1), .int .u64 (f 2), .int .u64 (f 3), .int .u64 (f 4), .int .u64 (f 5)]] w fun e w' => ∃ h : Nat → Int, e = .returned (.tuple #[.agg #[.int .u64 (h 0), .int .u64 (h 1), .int .u64 (h 2), .int .u64 (h 3), .int .u64 (h 4), .int .u64 (h 5)], .int .i64 7]) ∧ Rg h 6 ∧ val h 6 = 0 ∧ Below w.heap.size w w' := by
  have E : ∀ w, (Op.equalIn 10000 24 (.agg #[.int .u64 (f 0), .int .u64 (f 1), .int .u64 (f 2), .int .u64 (f 3), .int .u64 (f 4), .int .u64 (f 5)]) (.agg #[.int .u64 0, .int .u64 0, .int .u64 0, .int .u64 0, .int .u64 0, .int .u64 0])).run Tryd.prog w = .ok true w := fun w => by
    have := eqFr_run f Z rf (Z_rg 6) w
    rw [val_Z, decide_eq_true hz] at this
    exact this
  clear rf hz
  go_enter Tryd.func27, Tryd.ntmps27
  go_wp2
  refine bodyPost_ret (v := .tuple #[.agg #[.int .u64 0, .int .u64 0, .int .u64 0, .int .u64 0, .int .u64 0, .int .u64 0], .int .i64 7]) (by simp [results, Tryd.results27, go_sem]) rfl ⟨Z, rfl, Z_rg 6, val_Z 6, below_two _ _ _⟩

/-- The limbs of R - 2. -/
def iL : Nat → Int
  | 0 => 13402431016077863593
  | 1 => 2210141511517208575
  | 2 => 7435674573564081700
  | 3 => 7239337960414712511
  | 4 => 5412103778470702295
  | 5 => 1873798617647539866
  | _ => 0
theorem iL_rg : Rg iL 6 := fun i hi => by
  rcases (show i = 0 ∨ i = 1 ∨ i = 2 ∨ i = 3 ∨ i = 4 ∨ i = 5 by omega) with rfl | rfl | rfl | rfl | rfl | rfl <;> rw [B64_eq] <;> decide
theorem iL_val : val iL 6 = ((RN - 2 : Nat) : Int) := by decide +kernel

theorem frInv_any (f : Nat → Int) (w : World) (hg : Gl w) (rf : Rg f 6) (hz : val f 6 ≠ 0) : Calls Tryd.prog 27 #[.agg #[.int .u64 (f 0), .int .u64 (f 1), .int .u64 (f 2), .int .u64 (f 3), .int .u64 (f 4), .int .u64 (f 5)]] w fun e w' => ∃ h : Nat → Int, e = .returned (.tuple #[.agg #[.int .u64 (h 0), .int .u64 (h 1), .int .u64 (h 2), .int .u64 (h 3), .int .u64 (h 4), .int .u64 (h 5)], .int .i64 0]) ∧ Rg h 6 ∧ val h 6 = val f 6 ^ (RN - 2) % RI ∧ Below w.heap.size w w' := by
  have E : ∀ w, (Op.equalIn 10000 24 (.agg #[.int .u64 (f 0), .int .u64 (f 1), .int .u64 (f 2), .int .u64 (f 3), .int .u64 (f 4), .int .u64 (f 5)]) (.agg #[.int .u64 0, .int .u64 0, .int .u64 0, .int .u64 0, .int .u64 0, .int .u64 0])).run Tryd.prog w = .ok false w := fun w => by
    have := eqFr_run f Z rf (Z_rg 6) w
    rw [val_Z, decide_eq_false hz] at this
    exact this
  obtain ⟨B1, z1, hF, hR⟩ := pair_all w f 24
  unfold pair at B1 z1 hF hR
  have hgl := hg.stay B1
  have K : Hid _ := fun (W : World) (hW : Gl W) (b : Nat) (ha : At W (some ⟨b, 0, none⟩) 6 iL) => frPow_any f (some ⟨b, 0, none⟩) 6 6 iL (RN - 2) W hW rf (by omega) ha iL_rg iL_val
  clear rf hz hg
  go_enter Tryd.func27, Tryd.ntmps27
  go_wp2_with fail
  generalize (w.alloc (.cells #[.int .u64 (f 0), .int .u64 (f 1), .int .u64 (f 2), .int .u64 (f 3), .int .u64 (f 4), .int .u64 (f 5)] 24)).alloc (.cells #[.int .u64 0, .int .u64 0, .int .u64 0, .int .u64 0, .int .u64 0, .int .u64 0] 24) = W at *
  have a1 := below_one W (.cells #[.int .u64 (iL 0), .int .u64 (iL 1), .int .u64 (iL 2), .int .u64 (iL 3), .int .u64 (iL 4), .int .u64 (iL 5)] 22)
  have m1 := (mut_four W iL 22).at
  rw [z1] at m1
  refine Calls.mono (K.out _ (hgl.stay a1) _ m1) ?_
  rintro e w2 ⟨h2, rfl, r2, v2, b2⟩
  have b3 := Below.up a1 (Nat.le_refl _) b2
  obtain ⟨y0, y1, y2, y3, y4, y5⟩ := (hR.below b3 (by rw [z1]; omega)).cells6
  obtain ⟨x0, x1, x2, x3, x4, x5⟩ := (hR.below b3 (by rw [z1]; omega)).free6
  have HB : Hid _ := Below.up B1 (Nat.le_refl _) b3
  have R2 : Hid _ := r2
  have V2 : Hid _ := v2
  clear b2 b3 B1 hF hR r2 v2 a1 m1 hgl
  go_wp2
  refine bodyPost_ret (v := .tuple #[.agg #[.int .u64 (h2 0), .int .u64 (h2 1), .int .u64 (h2 2), .int .u64 (h2 3), .int .u64 (h2 4), .int .u64 (h2 5)], .int .i64 0]) (by simp [results, Tryd.results27, go_sem, y0, y1, y2, y3, y4, y5]) rfl ⟨h2, rfl, R2.out, V2.out, ?_⟩
  exact below_set6 HB.out (by omega) _ _ _ _ _ _

end Go.Proofs.YtgdmjngajjoliaaDoor.fpn
