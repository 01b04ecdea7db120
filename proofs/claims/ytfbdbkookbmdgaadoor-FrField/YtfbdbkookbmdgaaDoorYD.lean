/- What Inv and Root of package fr answer. -/
import Derived.Test.YtfbdbkookbmdgaaDoorYC
namespace Go.Proofs.YtfbdbkookbmdgaaDoor
open Go.RowKit
attribute [local go_sem ↓] Go.wp_at_zero Go.wp_at_succ
set_option linter.unusedVariables false

theorem frInv_zero (f : Nat → Int) (w : World) (rf : Rg f 4) (hz : val f 4 = 0) : Calls Tryd.prog 25 #[.agg #[.int .u64 (f 0), .int .u64 (f 1), .int .u64 (f 2), .int .u64 (f 3)]] w fun e w' => ∃ h : Nat → Int, e = .returned (.tuple #[.agg #[.int .u64 (h 0), .int .u64 (h 1), .int .u64 (h 2), .int .u64 (h 3)], .int .i64 7]) ∧ Rg h 4 ∧ val h 4 = 0 ∧ Below w.heap.size w w' := by
  have E : ∀ w, (Op.equalIn 10000 24 (.agg #[.int .u64 (f 0), .int .u64 (f 1), .int .u64 (f 2), .int .u64 (f 3)]) (.agg #[.int .u64 0, .int .u64 0, .int .u64 0, .int .u64 0])).run Tryd.prog w = .ok true w := fun w => by
    have := eqFr_run f Z rf (Z_rg 4) w
    rw [val_Z, decide_eq_true hz] at this
    exact this
  clear rf hz
  go_enter Tryd.func25, Tryd.ntmps25
  go_wp2
  refine bodyPost_ret (v := .tuple #[.agg #[.int .u64 0, .int .u64 0, .int .u64 0, .int .u64 0], .int .i64 7]) (by simp [results, Tryd.results25, go_sem]) rfl ⟨Z, rfl, Z_rg 4, val_Z 4, below_two _ _ _⟩

/-- The limbs of R - 2. -/
def iL : Nat → Int
  | 0 => 18446744069414584319
  | 1 => 6034159408538082302
  | 2 => 3691218898639771653
  | 3 => 8353516859464449352
  | _ => 0
theorem iL_rg : Rg iL 4 := fun i hi => by
  rcases (show i = 0 ∨ i = 1 ∨ i = 2 ∨ i = 3 by omega) with rfl | rfl | rfl | rfl <;> rw [B64_eq] <;> decide
theorem iL_val : val iL 4 = ((RN - 2 : Nat) : Int) := by decide +kernel

theorem frInv_any (f : Nat → Int) (w : World) (hg : Gl w) (rf : Rg f 4) (hz : val f 4 ≠ 0) : Calls Tryd.prog 25 #[.agg #[.int .u64 (f 0), .int .u64 (f 1), .int .u64 (f 2), .int .u64 (f 3)]] w fun e w' => ∃ h : Nat → Int, e = .returned (.tuple #[.agg #[.int .u64 (h 0), .int .u64 (h 1), .int .u64 (h 2), .int .u64 (h 3)], .int .i64 0]) ∧ Rg h 4 ∧ val h 4 = val f 4 ^ (RN - 2) % RI ∧ Below w.heap.size w w' := by
  have E : ∀ w, (Op.equalIn 10000 24 (.agg #[.int .u64 (f 0), .int .u64 (f 1), .int .u64 (f 2), .int .u64 (f 3)]) (.agg #[.int .u64 0, .int .u64 0, .int .u64 0, .int .u64 0])).run Tryd.prog w = .ok false w := fun w => by
    have := eqFr_run f Z rf (Z_rg 4) w
    rw [val_Z, decide_eq_false hz] at this
    exact this
  obtain ⟨B1, z1, hF, hR⟩ := pair_all w f 24
  unfold pair at B1 z1 hF hR
  have hgl := hg.stay B1
  have K : Hid _ := fun (W : World) (hW : Gl W) (b : Nat) (ha : At W (some ⟨b, 0, none⟩) 4 iL) => frPow_any f (some ⟨b, 0, none⟩) 4 4 iL (RN - 2) W hW rf (by omega) ha iL_rg iL_val
  clear rf hz hg
  go_enter Tryd.func25, Tryd.ntmps25
  go_wp2_with fail
  generalize (w.alloc (.cells #[.int .u64 (f 0), .int .u64 (f 1), .int .u64 (f 2), .int .u64 (f 3)] 24)).alloc (.cells #[.int .u64 0, .int .u64 0, .int .u64 0, .int .u64 0] 24) = W at *
  have a1 := below_one W (.cells #[.int .u64 (iL 0), .int .u64 (iL 1), .int .u64 (iL 2), .int .u64 (iL 3)] 22)
  have m1 := (mut_four W iL 22).at
  rw [z1] at m1
  refine Calls.mono (K.out _ (hgl.stay a1) _ m1) ?_
  rintro e w2 ⟨h2, rfl, r2, v2, b2⟩
  have b3 := Below.up a1 (Nat.le_refl _) b2
  obtain ⟨y0, y1, y2, y3⟩ := (hR.below b3 (by rw [z1]; omega)).cells4
  obtain ⟨x0, x1, x2, x3⟩ := (hR.below b3 (by rw [z1]; omega)).free4
  have HB : Hid _ := Below.up B1 (Nat.le_refl _) b3
  have R2 : Hid _ := r2
  have V2 : Hid _ := v2
  clear b2 b3 B1 hF hR r2 v2 a1 m1 hgl
  go_wp2
  refine bodyPost_ret (v := .tuple #[.agg #[.int .u64 (h2 0), .int .u64 (h2 1), .int .u64 (h2 2), .int .u64 (h2 3)], .int .i64 0]) (by simp [results, Tryd.results25, go_sem, y0, y1, y2, y3]) rfl ⟨h2, rfl, R2.out, V2.out, ?_⟩
  exact below_set4 HB.out (by omega) _ _ _ _

theorem frRoot_out (L : Int) (w : World) (hL : L < 0 ∨ 32 < L) : Calls Tryd.prog 38 #[.int .i64 L] w fun e w' => ∃ h : Nat → Int, e = .returned (.tuple #[.agg #[.int .u64 (h 0), .int .u64 (h 1), .int .u64 (h 2), .int .u64 (h 3)], .int .i64 1]) ∧ Rg h 4 ∧ val h 4 = 0 ∧ Below w.heap.size w w' := by
  rcases hL with h | h
  · go_enter Tryd.func38, Tryd.ntmps38
    go_wp2
    refine bodyPost_ret (v := .tuple #[.agg #[.int .u64 0, .int .u64 0, .int .u64 0, .int .u64 0], .int .i64 1]) (by simp [results, Tryd.results38, go_sem]) rfl ⟨Z, rfl, Z_rg 4, val_Z 4, below_one _ _⟩
  · have h0 : ¬ L < 0 := by omega
    go_enter Tryd.func38, Tryd.ntmps38
    go_wp2
    refine bodyPost_ret (v := .tuple #[.agg #[.int .u64 0, .int .u64 0, .int .u64 0, .int .u64 0], .int .i64 1]) (by simp [results, Tryd.results38, go_sem]) rfl ⟨Z, rfl, Z_rg 4, val_Z 4, below_one _ _⟩

theorem frRoot_any (L : Nat) (w : World) (hg : Gl w) (hL : L ≤ 32) : Calls Tryd.prog 38 #[.int .i64 L] w fun e w' => ∃ h : Nat → Int, e = .returned (.tuple #[.agg #[.int .u64 (h 0), .int .u64 (h 1), .int .u64 (h 2), .int .u64 (h 3)], .int .i64 0]) ∧ Rg h 4 ∧ val h 4 = val gL 4 ^ (2 ^ (32 - L)) % RI ∧ Below w.heap.size w w' := by
  have hR : Mut (w.alloc (.cells #[.int .u64 0, .int .u64 0, .int .u64 0, .int .u64 0] 24)) w.heap.size 0 4 Z := mut_noughts w _
  have B1 := below_one w (.cells #[.int .u64 0, .int .u64 0, .int .u64 0, .int .u64 0] 24)
  have z1 := World.size_alloc w (.cells #[.int .u64 0, .int .u64 0, .int .u64 0, .int .u64 0] 24)
  have hgl := hg.stay B1
  obtain ⟨c0, c1, c2, c3⟩ := at4 hgl.1
  have e1 : ¬ (L : Int) < 0 := by omega
  have e2 : ¬ 32 < (L : Int) := by omega
  generalize hD : 32 - L = D
  have hD2 : D ≤ 32 := by omega
  have hw : IntKind.i64.wrap (32 - (L : Int)) = (D : Int) := by rw [IntKind.wrap_i64]; omega
  have hp : (2 : Int) ^ D ≤ 4294967296 := by
    have := Nat.pow_le_pow_right (show 0 < 2 by decide) hD2
    have : ((2 ^ D : Nat) : Int) ≤ ((2 ^ 32 : Nat) : Int) := Int.ofNat_le.mpr this
    rwa [Int.natCast_pow] at this
  have hx : IntKind.u64.wrap ((2 : Int) ^ D) = ((2 ^ D : Nat) : Int) := by
    rw [IntKind.wrap_u64, Int.natCast_pow]
    exact Int.emod_eq_of_lt (Int.le_of_lt (Int.pow_pos (by decide))) (by omega)
  have hx2 : ((2 ^ D : Nat) : Int) < B64 := by
    rw [Int.natCast_pow, B64_eq]
    exact Int.lt_of_le_of_lt hp (by decide)
  have K : Hid _ := fun (W : World) (hW : Gl W) (b : Nat) (ha : At W (some ⟨b, 0, none⟩) 1 (one ((2 ^ D : Nat) : Int))) => frPow_any gL (some ⟨b, 0, none⟩) 1 1 (one ((2 ^ D : Nat) : Int)) (2 ^ D) W hW gL_rg (by omega) ha (one_rg ⟨Int.natCast_nonneg _, hx2⟩ 1) (val_one _)
  have HX : Hid _ := hx
  clear hx hx2 hD hp
  go_enter Tryd.func38, Tryd.ntmps38
  go_wp2_with fail
  generalize w.alloc (.cells #[.int .u64 0, .int .u64 0, .int .u64 0, .int .u64 0] 24) = W at *
  have HGL : Hid _ := hgl
  have HP : 1 < W.heap.size := cell_lt (at4 hgl.2).1
  have HR : Hid _ := hR
  have HB1 : Hid _ := B1
  clear hgl hg hR B1
  have ba := below_one W (.cells #[.int .u64 (IntKind.u64.wrap ((2 : Int) ^ D))] 22)
  have gv := Gl.stay HGL.out ba
  obtain ⟨d0, d1, d2, d3⟩ := at4 gv.1
  have av := at_one W (IntKind.u64.wrap ((2 : Int) ^ D)) 22
  rw [z1] at av
  have av2 : At (W.alloc (.cells #[.int .u64 (IntKind.u64.wrap ((2 : Int) ^ D))] 22)) (some ⟨w.heap.size + 1, 0, none⟩) 1 (one ((2 ^ D : Nat) : Int)) := by
    rw [HX.out] at av ⊢; exact av
  have GV : Hid _ := gv
  have AV : Hid _ := av2
  have BA : Hid _ := ba
  have Z1 : Hid _ := z1
  clear gv av av2 ba
  go_region_with (go_at_call 27; refine Calls.mono (K.out _ ?_ _ ?_) ?_; exact GV.out; exact AV.out; rintro e w2 ⟨h2, rfl, r2, v2, b2⟩; have b3 : Below W.heap.size W w2 := Below.up BA.out (Nat.le_refl _) (by first | exact b2 | exact below_drew b2); obtain ⟨y0, y1, y2, y3⟩ := (MutK.below HR.out b3 (by rw [Z1.out]; omega)).cells4; obtain ⟨x0, x1, x2, x3⟩ := (MutK.below HR.out b3 (by rw [Z1.out]; omega)).free4; have HB : Hid _ := Below.up HB1.out (Nat.le_refl _) b3; have R2 : Hid _ := r2; have V2 : Hid _ := v2; clear b2 b3 r2 v2)
  all_goals
    go_wp2
    refine bodyPost_ret (v := .tuple #[.agg #[.int .u64 (h2 0), .int .u64 (h2 1), .int .u64 (h2 2), .int .u64 (h2 3)], .int .i64 0]) (by simp [results, Tryd.results38, go_sem, y0, y1, y2, y3]) rfl ⟨h2, rfl, R2.out, V2.out, ?_⟩
    exact below_set4 HB.out (by omega) _ _ _ _
end Go.Proofs.YtfbdbkookbmdgaaDoor
