/- Package gauss as landed: Gcd. -/
import Derived.Test.YtgkpcjopedleeaaGR
namespace Go.Proofs.Ytgkpcjopedleeaa
open Go.RowKit
set_option linter.unusedVariables false

/-- The norm of a complex number in a slot. -/
def cn : Value → Nat
  | .complex _ p q => (((floatToIntVal .f64 p .i64).getD 0) * ((floatToIntVal .f64 p .i64).getD 0) + ((floatToIntVal .f64 q .i64).getD 0) * ((floatToIntVal .f64 q .i64).getD 0)).toNat
  | _ => 0
theorem cn_gv {a : Gz} (h : Wh a) : cn (.complex .f64 (fi a.1) (fi a.2)) = (gn a).toNat := by
  show (((floatToIntVal .f64 (fi a.1) .i64).getD 0) * ((floatToIntVal .f64 (fi a.1) .i64).getD 0) + ((floatToIntVal .f64 (fi a.2) .i64).getD 0) * ((floatToIntVal .f64 (fi a.2) .i64).getD 0)).toNat = _
  rw [h.f1.toInt, h.f2.toInt]
  rfl

theorem rest_wh {a b : Gz} (hb : Wh b) (b0 : b ≠ (0, 0)) : Wh (gs a (gm (gq a b) b)) ∧ (gn (gs a (gm (gq a b) b))).toNat < (gn b).toNat := by
  have h := rest_half a b b0
  have hp := gn_pos b0
  have hn := hb.norm
  have h0 := gn_nonneg (gs a (gm (gq a b) b))
  refine ⟨?_, by omega⟩
  exact part_le (n := 1048576) (by have : ((1048576 : Nat) : Int) * (1048576 : Nat) = 2 ^ 40 := by decide
                                   omega)

def gcdJ (a b : Gz) (w : World) : Act → World → Prop := fun a' w' => ∃ (x y : Gz) (u2 u3 u4 u5 u6 u7 u8 u9 u10 u11 u12 u13 u14 u15 u16 u17 u18 u19 u20 u21 u22 u23 u24 u25 u26 u27 u28 u29 u30 u31 u32 : Value), a' = { tmps := #[.complex .f64 (fi x.1) (fi x.2), .complex .f64 (fi y.1) (fi y.2), u2, u3, u4, u5, u6, u7, u8, u9, u10, u11, u12, u13, u14, u15, u16, u17, u18, u19, u20, u21, u22, u23, u24, u25, u26, u27, u28, u29, u30, u31, u32], defers := [] } ∧ Wh x ∧ Wh y ∧ (∀ g, IsGcd g x y → IsGcd g a b) ∧ w' = w

set_option maxHeartbeats 1600000 in
theorem gcd_any (a b : Gz) (w : World) (ha : Wh a) (hb : Wh b) : Calls Try.prog 16 #[gv a, gv b] w fun e w' => ∃ g, e = .returned (gv g) ∧ IsGcd g a b ∧ First g ∧ w' = w := by
  have HA : Hid _ := fun w => tidy_any ha.f1 ha.f2 w
  have HB : Hid _ := fun w => tidy_any hb.f1 hb.f2 w
  have MA : Hid _ := fun w => may_any a w ha
  have MB : Hid _ := fun w => may_any b w hb
  have WA : Hid _ := ha
  have WB : Hid _ := hb
  clear ha hb
  unfold gv at MA MB ⊢
  go_enter Try.func16, Try.ntmps16
  go_wp2
  refine wp_scope_goto 0 (gcdJ a b w) (fun a' _ => cn (a'.tmps.getD 1 undef)) rfl ?_ ?_
  · rintro a' W ⟨x, y, u2, u3, u4, u5, u6, u7, u8, u9, u10, u11, u12, u13, u14, u15, u16, u17, u18, u19, u20, u21, u22, u23, u24, u25, u26, u27, u28, u29, u30, u31, u32, rfl, hx, hy, hg, rfl⟩
    clear HA HB MA MB WA WB
    have z1 := eqz' hy.f1
    have z2 := eqz' hy.f2
    have HG : Hid _ := hg
    have WX : Hid _ := hx
    have WY : Hid _ := hy
    by_cases y0 : y = (0, 0)
    · subst y0
      rw [decide_eq_true rfl] at z1 z2
      have HU : Hid _ := fun w => upright_any x w hx
      unfold gv at HU
      clear hg hx hy
      go_wp2_with fail
      refine Calls.mono (HU.out _) ?_
      rintro e w1 ⟨u, hu, hf, rfl, rfl⟩
      have HK : Hid (IsGcd (gm x u) a b) := HG.out _ ((IsGcd.zero x).unit hu)
      have HF : Hid (First (gm x u)) := hf
      clear hu hf
      go_wp2
      simp only [Exit.jump]
      go_ret
      exact ⟨gm x u, rfl, HK.out, HF.out, rfl⟩
    · have zz : (decide (y.1 = 0) && decide (y.2 = 0)) = false := by
        by_cases h1 : y.1 = 0
        · by_cases h2 : y.2 = 0
          · exact absurd (gext h1 h2) y0
          · simp [h2]
        · simp [h1]
      have HD : Hid _ := fun w => div_any x y w hx hy y0
      have HW : Hid _ := rest_wh (a := x) hy y0
      have HS : Hid (∀ g, IsGcd g y (gs x (gm (gq x y) y)) → IsGcd g a b) := fun g h => hg g h.step
      unfold gv at HD
      clear hg hx hy y0
      go_wp2_with fail
      refine Calls.mono (HD.out _) ?_
      rintro e w1 ⟨rfl, rfl⟩
      go_wp2
      go_step3
      refine ⟨rfl, ⟨y, gs x (gm (gq x y) y), _, _, _, _, _, _, _, _, _, _, _, _, _, _, _, _, _, _, _, _, _, _, _, _, _, _, _, _, _, _, _, rfl, WY.out, HW.out.1, HS.out, rfl⟩, ?_⟩
      show cn (.complex .f64 _ _) < cn (.complex .f64 _ _)
      rw [cn_gv HW.out.1, cn_gv WY.out]
      exact HW.out.2
  · intro hr
    go_wp2_with fail
    refine Calls.mono (HA.out _) ?_
    rintro e w1 ⟨rfl, rfl⟩
    go_wp2_with fail
    refine Calls.mono (HB.out _) ?_
    rintro e w1 ⟨rfl, rfl⟩
    go_wp2_with fail
    refine Calls.mono (MA.out _) ?_
    rintro e w1 ⟨rfl, rfl⟩
    go_wp2_with fail
    refine Calls.mono (MB.out _) ?_
    rintro e w1 ⟨rfl, rfl⟩
    go_wp2
    go_step3
    rename_i K hK
    exact hK _ _ (hr _ _ ⟨a, b, _, _, _, _, _, _, _, _, _, _, _, _, _, _, _, _, _, _, _, _, _, _, _, _, _, _, _, _, _, _, _, rfl, WA.out, WB.out, fun _ h => h, rfl⟩)
end Go.Proofs.Ytgkpcjopedleeaa
