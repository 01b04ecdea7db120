/- How two scalars are compared; what the document's InvR, RootR and WideR answer. -/
import Derived.Test.YtfbdbkookbmdgaaDoorWZ
import Derived.Laws.StructEq
namespace Go.Proofs.YtfbdbkookbmdgaaDoor
open Go.RowKit
attribute [local go_sem ↓] Go.wp_at_zero Go.wp_at_succ
set_option linter.unusedVariables false

theorem invR_zero (f : Nat → Int) (w : World) (rf : Rg f 4) (hz : val f 4 = 0) :
    Calls Tryd.prog 26 #[frv f] w fun e w' => e = .returned (.tuple #[frv f, .int .i64 7]) ∧ Below w.heap.size w w' := by
  have E : ∀ w, (Op.equalIn 10000 24 (.agg #[.int .u64 (f 0), .int .u64 (f 1), .int .u64 (f 2), .int .u64 (f 3)]) (.agg #[.int .u64 0, .int .u64 0, .int .u64 0, .int .u64 0])).run Tryd.prog w = .ok true w := fun w => by
    have := eqFr_run f Z rf (Z_rg 4) w
    rw [val_Z, decide_eq_true hz] at this
    exact this
  unfold frv
  go_enter Tryd.func26, Tryd.ntmps26
  go_wp2
  refine bodyPost_ret (v := .tuple #[.agg #[.int .u64 (f 0), .int .u64 (f 1), .int .u64 (f 2), .int .u64 (f 3)], .int .i64 7]) (by simp [results, Tryd.results26, go_sem]) rfl ⟨rfl, below_two _ _ _⟩

theorem invR_any (f : Nat → Int) (w : World) (rf : Rg f 4) (lf : val f 4 < RI) (hz : val f 4 ≠ 0) :
    Calls Tryd.prog 26 #[frv f] w fun e w' => ∃ v, e = .returned (.tuple #[v, .int .i64 0]) ∧ IsFr v (val f 4 ^ (RN - 2) % RI) ∧ Below w.heap.size w w' := by
  have E : ∀ w, (Op.equalIn 10000 24 (.agg #[.int .u64 (f 0), .int .u64 (f 1), .int .u64 (f 2), .int .u64 (f 3)]) (.agg #[.int .u64 0, .int .u64 0, .int .u64 0, .int .u64 0])).run Tryd.prog w = .ok false w := fun w => by
    have := eqFr_run f Z rf (Z_rg 4) w
    rw [val_Z, decide_eq_false hz] at this
    exact this
  unfold frv
  obtain ⟨B1, z1, hF, hR⟩ := pair_all w f 24
  unfold pair at B1 z1 hF hR
  have HZ : Hid _ := hz
  have LF : Hid _ := lf
  clear hz lf
  go_enter Tryd.func26, Tryd.ntmps26
  go_wp2_with fail
  generalize (w.alloc (.cells #[.int .u64 (f 0), .int .u64 (f 1), .int .u64 (f 2), .int .u64 (f 3)] 24)).alloc (.cells #[.int .u64 0, .int .u64 0, .int .u64 0, .int .u64 0] 24) = W at *
  refine Calls.mono (refR_any _) ?_
  rintro e w2 ⟨rfl, b2, -, m2⟩
  have b3 := Below.up B1 (Nat.le_refl _) b2
  have c2 := below_one w2 (.cells #[.int .u64 2] 22)
  have K1 : Hid _ := refLess_any (some ⟨W.heap.size, 0, none⟩) (some ⟨w2.heap.size, 0, none⟩) 4 1 4 1 rL (one 2) _ (by omega) (by omega) (by omega) (by omega) (m2.at.below c2) (at_one w2 2 22) rL_rg (one_rg ⟨by decide, by rw [B64_eq]; decide⟩ 1) (by rw [rL_val, val_one]; decide) (by omega) (by omega)
  have b4 := Below.up b2 (Nat.le_refl _) c2
  have hF2 := hF.below b4 (by rw [z1]; omega)
  have hR2 := hR.below b4 (by rw [z1]; omega)
  have HB4 : Hid _ := Below.up B1 (Nat.le_refl _) b4
  have HLW : Hid (w.heap.size + 2 ≤ (w2.alloc (.cells #[.int .u64 2] 22)).heap.size) := by have := b4.size; show _ ≤ _; omega
  clear b3 b2 m2 b4 hF hR B1 z1 c2
  go_wp2_with fail
  generalize w2.alloc (.cells #[.int .u64 2] 22) = w3 at *
  refine Calls.mono K1.out ?_
  rintro e w4 ⟨v, rfl, b5, p, n, c, h, rfl, l1, l2, l3, a4, r4, -, v4⟩
  rw [rL_val, val_one] at v4
  have hF3 := hF2.below b5 (by have := HLW.out; omega)
  have hR3 := hR2.below b5 (by have := HLW.out; omega)
  obtain ⟨x0, x1, x2, x3⟩ := hF3.cells4
  have P1 : Hid _ := powR_any f p n c h (RN - 2) w4 rf LF.out (by omega) a4 r4 (by rw [v4, RI_RN]; rfl)
  unfold frv at P1
  have HB5 : Hid _ := Below.up HB4.out (Nat.le_refl _) b5
  have HL5 : Hid (w.heap.size + 2 ≤ w4.heap.size) := by have := b5.size; have := HLW.out; show _ ≤ _; omega
  have HR3 : Hid _ := hR3
  clear b5 a4 r4 v4 hF2 hR2 hF3 hR3 K1 HB4 HLW l1 l2 l3
  go_wp2_with fail
  refine Calls.mono P1.out ?_
  rintro e w5 ⟨v, rfl, ⟨h3, rfl, r3, v3⟩, b5⟩
  obtain ⟨y0, y1, y2, y3⟩ := (MutK.below HR3.out b5 (by have := HL5.out; omega)).cells4
  obtain ⟨z0, z1, z2, z3⟩ := (MutK.below HR3.out b5 (by have := HL5.out; omega)).free4
  have HB6 : Hid _ := Below.up HB5.out (Nat.le_refl _) b5
  have R3 : Hid _ := r3
  have V3 : Hid _ := v3
  clear b5 r3 v3 x0 x1 x2 x3
  go_wp2
  refine bodyPost_ret (v := .tuple #[.agg #[.int .u64 (h3 0), .int .u64 (h3 1), .int .u64 (h3 2), .int .u64 (h3 3)], .int .i64 0]) (by simp [results, Tryd.results26, go_sem, y0, y1, y2, y3]) rfl ⟨_, rfl, ⟨h3, rfl, R3.out, V3.out⟩, ?_⟩
  exact below_set4 HB6.out (by omega) _ _ _ _

theorem rootR_out (L : Int) (w : World) (hL : L < 0 ∨ 32 < L) :
    Calls Tryd.prog 39 #[.int .i64 L] w fun e w' => e = .returned (.tuple #[.agg #[.int .u64 0, .int .u64 0, .int .u64 0, .int .u64 0], .int .i64 1]) ∧ Below w.heap.size w w' := by
  rcases hL with h | h
  · go_enter Tryd.func39, Tryd.ntmps39
    go_wp2
    refine bodyPost_ret (v := .tuple #[.agg #[.int .u64 0, .int .u64 0, .int .u64 0, .int .u64 0], .int .i64 1]) (by simp [results, Tryd.results39, go_sem]) rfl ⟨rfl, below_one _ _⟩
  · have h0 : ¬ L < 0 := by omega
    go_enter Tryd.func39, Tryd.ntmps39
    go_wp2
    refine bodyPost_ret (v := .tuple #[.agg #[.int .u64 0, .int .u64 0, .int .u64 0, .int .u64 0], .int .i64 1]) (by simp [results, Tryd.results39, go_sem]) rfl ⟨rfl, below_one _ _⟩

theorem rootR_any (L : Nat) (w : World) (hL : L ≤ 32) :
    Calls Tryd.prog 39 #[.int .i64 L] w fun e w' => ∃ v, e = .returned (.tuple #[v, .int .i64 0]) ∧ IsFr v (val gL 4 ^ (2 ^ (32 - L)) % RI) ∧ Below w.heap.size w w' := by
  have hR : Mut (w.alloc (.cells #[.int .u64 0, .int .u64 0, .int .u64 0, .int .u64 0] 24)) w.heap.size 0 4 Z := mut_noughts w _
  have hX := mut_four (w.alloc (.cells #[.int .u64 0, .int .u64 0, .int .u64 0, .int .u64 0] 24)) gL 24
  have b1 := below_one w (.cells #[.int .u64 0, .int .u64 0, .int .u64 0, .int .u64 0] 24)
  have b2 := below_one (w.alloc (.cells #[.int .u64 0, .int .u64 0, .int .u64 0, .int .u64 0] 24)) (.cells #[.int .u64 (gL 0), .int .u64 (gL 1), .int .u64 (gL 2), .int .u64 (gL 3)] 24)
  have z1 := World.size_alloc w (.cells #[.int .u64 0, .int .u64 0, .int .u64 0, .int .u64 0] 24)
  go_enter Tryd.func39, Tryd.ntmps39
  go_wp2_with fail
  generalize w.alloc (.cells #[.int .u64 0, .int .u64 0, .int .u64 0, .int .u64 0] 24) = W1 at *
  rw [z1] at hX b2
  have HR : Hid _ := hR
  have HX : Hid _ := hX
  have HB1 : Hid _ := b1
  have HB2 : Hid _ := b2
  have Z1 : Hid _ := z1
  clear hR hX b1 b2 z1
  go_loopw [5] (fun i wr => ∃ (j : Nat) (h : Nat → Int), L ≤ j ∧ j ≤ 32 ∧ i = .int .i64 j ∧ Below (w.heap.size + 1) W1 wr ∧ Mut wr (w.heap.size + 1) 0 4 h ∧ Rg h 4 ∧ val h 4 = val gL 4 ^ (2 ^ (j - L)) % RI) (fun i _ => 32 - (intOf i).toNat)
  case atStart => exact ⟨L, gL, Nat.le_refl _, hL, rfl, HB2.out, HX.out, gL_rg, by rw [Nat.sub_self]; decide +kernel⟩
  case round =>
    obtain ⟨j, h, hj1, hj2, rfl, hbel, hW, rh, vh⟩ := hrel
    by_cases hlt : j < 32
    · obtain ⟨x0, x1, x2, x3⟩ := hW.cells4
      have hl : val h 4 < RI := by rw [vh]; exact modR_lt _
      have M1 : Hid _ := mulR_agg h h wr rh rh hl
      have bl : w.heap.size + 1 < wr.heap.size := cell_lt x0
      have vs := pow_sq vh
      rw [show 2 * 2 ^ (j - L) = 2 ^ (j + 1 - L) by rw [show j + 1 - L = (j - L) + 1 by omega, Nat.pow_succ, Nat.mul_comm]] at vs
      have VS : Hid _ := vs
      have BL : Hid _ := bl
      have HW : Hid _ := hW
      have HB : Hid _ := hbel
      clear bl vs hW hbel hl rh vh
      go_wp2_with fail
      refine Calls.mono M1.out ?_
      rintro e w3 ⟨h3, rfl, r3, v3, b3⟩
      have k3 := MutK.below HW.out b3 BL.out
      obtain ⟨y0, y1, y2, y3⟩ := k3.cells4
      obtain ⟨z0, z1, z2, z3⟩ := k3.free4
      have M4 : Hid _ := mut_set4 k3 h3
      have B4 : Hid _ := below_set4 (Below.trans HB.out (b3.mono (Nat.le_of_lt BL.out))) (Nat.le_refl _) (.int .u64 (h3 0)) (.int .u64 (h3 1)) (.int .u64 (h3 2)) (.int .u64 (h3 3))
      have R3 : Hid _ := r3
      have V3 : Hid _ := v3
      clear k3 r3 v3 b3 M1 HB HW BL x0 x1 x2 x3
      go_wp2
      go_roundw
      case rel => exact ⟨j + 1, h3, by omega, by omega, by go_num, B4.out, M4.out, R3.out, by rw [V3.out]; exact VS.out⟩
      case measure => simp [intOf]; omega
    · have e : j = 32 := by omega
      subst e
      obtain ⟨x0, x1, x2, x3⟩ := hW.cells4
      obtain ⟨y0, y1, y2, y3⟩ := (MutK.below HR.out hbel (by omega)).cells4
      obtain ⟨z0, z1, z2, z3⟩ := (MutK.below HR.out hbel (by omega)).free4
      have HB : Hid _ := Below.trans HB1.out (hbel.mono (Nat.le_succ _))
      have RH : Hid _ := rh
      have VH : Hid _ := vh
      clear hbel hW rh vh
      go_wp2
      refine bodyPost_ret (v := .tuple #[.agg #[.int .u64 (h 0), .int .u64 (h 1), .int .u64 (h 2), .int .u64 (h 3)], .int .i64 0]) (by simp [results, Tryd.results39, go_sem, y0, y1, y2, y3]) rfl ⟨_, rfl, ⟨h, rfl, RH.out, VH.out⟩, ?_⟩
      exact below_set4 HB.out (by omega) _ _ _ _
end Go.Proofs.YtfbdbkookbmdgaaDoor
