/- What the document's PowR answers: powers modulo R. -/
import Derived.Test.YtgdmjngajjoliaaDoorQY
import Derived.Test.YtgdmjngajjoliaaDoorWZ
namespace Go.Proofs.YtgdmjngajjoliaaDoor.fpn
open Go.RowKit
attribute [local go_sem ↓] Go.wp_at_zero Go.wp_at_succ
set_option linter.unusedVariables false

theorem mulR_agg (f g : Nat → Int) (w : World) (rf : Rg f 6) (rg : Rg g 6) (lg : val g 6 < RI) :
    Calls Tryd.prog 53 #[.agg #[.int .u64 (f 0), .int .u64 (f 1), .int .u64 (f 2), .int .u64 (f 3), .int .u64 (f 4), .int .u64 (f 5)], .agg #[.int .u64 (g 0), .int .u64 (g 1), .int .u64 (g 2), .int .u64 (g 3), .int .u64 (g 4), .int .u64 (g 5)]] w fun e w' => ∃ h, e = .returned (.agg #[.int .u64 (h 0), .int .u64 (h 1), .int .u64 (h 2), .int .u64 (h 3), .int .u64 (h 4), .int .u64 (h 5)]) ∧ Rg h 6 ∧ val h 6 = val f 6 * val g 6 % RI ∧ Below w.heap.size w w' := by
  refine Calls.mono (mulR_any f g w rf rg lg) ?_
  rintro e w' ⟨v, rfl, ⟨h, rfl, r, v⟩, b⟩
  exact ⟨h, rfl, r, v, b⟩

/-- One step of a power. -/
theorem pow_sq {A H : Int} {q : Nat} (h : H = A ^ q % RI) : H * H % RI = A ^ (2 * q) % RI := by
  rw [h, mul_mod_l, mul_mod_r, ← Int.pow_add, Nat.two_mul]
theorem pow_sq1 {A H : Int} {q : Nat} (h : H = A ^ (2 * q) % RI) : H * A % RI = A ^ (2 * q + 1) % RI := by
  rw [h, mul_mod_l, ← Int.pow_succ]

theorem powR_any (f : Nat → Int) (pe : Option Addr) (n ce : Nat) (g : Nat → Int) (E : Nat) (w : World) (rf : Rg f 6) (lf : val f 6 < RI) (hn : n ≤ 1000) (he : At w pe n g) (rg : Rg g n) (hE : val g n = (E : Int)) :
    Calls Tryd.prog 32 #[frv f, .slice pe n ce] w fun e w' => ∃ v, e = .returned v ∧ IsFr v (val f 6 ^ E % RI) ∧ Below w.heap.size w w' := by
  unfold frv
  obtain ⟨B1, z1, hF, hR⟩ := pair_all w f 24
  unfold pair at B1 z1 hF hR
  go_enter Tryd.func32, Tryd.ntmps32
  go_wp2_with fail
  generalize (w.alloc (.cells #[.int .u64 (f 0), .int .u64 (f 1), .int .u64 (f 2), .int .u64 (f 3), .int .u64 (f 4), .int .u64 (f 5)] 24)).alloc (.cells #[.int .u64 0, .int .u64 0, .int .u64 0, .int .u64 0, .int .u64 0, .int .u64 0] 24) = W at *
  refine Calls.mono (refOf_any _ _) ?_
  rintro e w2 ⟨rfl, b2⟩
  have b3 := Below.up B1 (Nat.le_refl _) b2
  have HB2 : Hid _ := b3
  have HF : Hid _ := hF.below b2 (by rw [z1]; omega)
  have HR : Hid _ := hR.below b2 (by rw [z1]; omega)
  have HE : Hid _ := he.below b3
  have HL : Hid (w.heap.size + 2 ≤ w2.heap.size) := by have := b2.size; show _ ≤ _; omega
  have HX : Hid (Mut (w2.alloc (.cells #[.int .u64 1, .int .u64 0, .int .u64 0, .int .u64 0, .int .u64 0, .int .u64 0] 24)) w2.heap.size 0 6 (one 1)) := mut_four w2 (one 1) _
  have R1 : Hid (Rg (one 1) 6) := one_rg ⟨by decide, by rw [B64_eq]; decide⟩ 6
  have V1 : Hid (val (one 1) 6 = val f 6 ^ (E / 2 ^ (64 * n)) % RI) := by
    show _ = _
    rw [nat_top rg hE, Int.pow_zero]; decide +kernel
  have N0 : ∀ j, j < 64 * n → Hid (g (j / 64) / 2 ^ (j % 64) % 2 = ((E / 2 ^ j % 2 : Nat) : Int)) := fun j hj => nat_bit rg hE hj
  have HRG : Hid _ := rg
  have LF : Hid _ := lf
  clear B1 z1 hF hR b2 b3 he hE rg lf
  go_wp2_with fail
  go_loopw [6] (fun i wr => ∃ (j : Nat) (h : Nat → Int), j ≤ 64 * n ∧ i = .int .i64 ((j : Int) - 1) ∧ Below w2.heap.size w2 wr ∧ Mut wr w2.heap.size 0 6 h ∧ Rg h 6 ∧ val h 6 = val f 6 ^ (E / 2 ^ j) % RI) (fun i _ => (intOf i + 1).toNat)
  case atStart => exact ⟨64 * n, one 1, Nat.le_refl _, by go_num, below_one _ _, HX.out, R1.out, V1.out⟩
  case round =>
    obtain ⟨j, h, hj, rfl, hbel, hW, rh, vh⟩ := hrel
    cases j with
    | zero =>
      obtain ⟨x0, x1, x2, x3, x4, x5⟩ := hW.cells6
      obtain ⟨y0, y1, y2, y3, y4, y5⟩ := (MutK.below HR.out hbel (by have := HL.out; omega)).cells6
      obtain ⟨z0, z1, z2, z3, z4, z5⟩ := (MutK.below HR.out hbel (by have := HL.out; omega)).free6
      have HB : Hid _ := Below.up HB2.out (Nat.le_refl _) hbel
      have RH : Hid _ := rh
      have VH : Hid _ := vh
      clear hbel hW rh vh
      go_wp2
      refine bodyPost_ret (v := .agg #[.int .u64 (h 0), .int .u64 (h 1), .int .u64 (h 2), .int .u64 (h 3), .int .u64 (h 4), .int .u64 (h 5)]) (by simp [results, Tryd.results32, go_sem, y0, y1, y2, y3, y4, y5]) rfl ⟨_, rfl, ⟨h, rfl, RH.out, ?_⟩, ?_⟩
      · rw [VH.out, Nat.pow_zero, Nat.div_one]
      · exact below_set6 HB.out (by omega) _ _ _ _ _ _
    | succ j =>
      rw [show ((j + 1 : Nat) : Int) - 1 = (j : Int) by omega]
      obtain ⟨x0, x1, x2, x3, x4, x5⟩ := hW.cells6
      have hlt : val h 6 < RI := by rw [vh]; exact modR_lt _
      have M1 : Hid _ := mulR_agg h h wr rh rh hlt
      have VH : Hid _ := vh
      have HW : Hid _ := hW
      have HB : Hid _ := hbel
      have bl : w2.heap.size < wr.heap.size := cell_lt x0
      have BL : Hid _ := bl
      clear hbel hW rh vh hlt bl
      go_wp2_with fail
      refine Calls.mono M1.out ?_
      rintro e w3 ⟨h3, rfl, r3, v3, b3⟩
      have hb3 := Below.up HB.out (Nat.le_refl _) b3
      have k3 := MutK.below HW.out b3 BL.out
      obtain ⟨y0, y1, y2, y3, y4, y5⟩ := k3.cells6
      obtain ⟨z0, z1, z2, z3, z4, z5⟩ := k3.free6
      have m4 := mut_set6 k3 h3
      have b4 := below_set6 hb3 (Nat.le_refl _) (.int .u64 (h3 0)) (.int .u64 (h3 1)) (.int .u64 (h3 2)) (.int .u64 (h3 3)) (.int .u64 (h3 4)) (.int .u64 (h3 5))
      have M4 : Hid _ := m4
      have B4 : Hid _ := b4
      have R3 : Hid _ := r3
      have V3 : Hid _ := v3
      have hb1 := (N0 j (by omega)).out
      have hh := nat_half E j
      clear k3 m4 b4 r3 v3 M1 HB HW BL b3 hb3 x0 x1 x2 x3 x4 x5
      go_wp2_with fail
      generalize (((((w3.setCell ⟨w2.heap.size, 0, none⟩ (.int .u64 (h3 0))).setCell ⟨w2.heap.size, 1, none⟩ (.int .u64 (h3 1))).setCell ⟨w2.heap.size, 2, none⟩ (.int .u64 (h3 2))).setCell ⟨w2.heap.size, 3, none⟩ (.int .u64 (h3 3))).setCell ⟨w2.heap.size, 4, none⟩ (.int .u64 (h3 4))).setCell ⟨w2.heap.size, 5, none⟩ (.int .u64 (h3 5)) = W4 at *
      have KB : Hid _ := refBit_any pe n ce g j W4 (by omega) (by omega) (by omega) (AtK.below HE.out B4.out) HRG.out
      rw [hb1] at KB
      have vs := pow_sq VH.out
      rw [← V3.out] at vs
      have VS : Hid _ := vs
      clear y0 y1 y2 y3 y4 y5 z0 z1 z2 z3 z4 z5 hb1 vs
      have h01 : E / 2 ^ j % 2 = 0 ∨ E / 2 ^ j % 2 = 1 := by omega
      rcases h01 with h0 | h1
      · rw [h0] at KB
        have VF : Hid (val h3 6 = val f 6 ^ (E / 2 ^ j) % RI) := by
          show _ = _
          have e : E / 2 ^ j = 2 * (E / 2 ^ (j + 1)) := by rw [h0] at hh; exact hh
          rw [VS.out, e]
        clear hh h0
        refine Calls.mono KB.out ?_
        rintro e w5 ⟨rfl, rfl⟩
        go_wp2
        go_roundw
        case rel => exact ⟨j, h3, by omega, by go_num, B4.out, M4.out, R3.out, VF.out⟩
        case measure => simp [intOf]
      · rw [h1] at KB
        have VF : Hid (val h3 6 * val f 6 % RI = val f 6 ^ (E / 2 ^ j) % RI) := by
          show _ = _
          rw [pow_sq1 VS.out, hh, h1]
        clear hh h1
        refine Calls.mono KB.out ?_
        rintro e w5 ⟨rfl, rfl⟩
        obtain ⟨x0, x1, x2, x3, x4, x5⟩ := MutK.cells6 M4.out
        obtain ⟨a0, a1, a2, a3, a4, a5⟩ := (MutK.below HF.out B4.out (by have := HL.out; omega)).cells6
        have M2 : Hid _ := mulR_agg h3 f w5 R3.out rf LF.out
        have bl : w2.heap.size < w5.heap.size := cell_lt x0
        have BL : Hid _ := bl
        clear bl
        go_wp2_with fail
        refine Calls.mono M2.out ?_
        rintro e w6 ⟨h6, rfl, r6, v6, b6⟩
        have hb6 := Below.up B4.out (Nat.le_refl _) b6
        have k6 := MutK.below M4.out b6 BL.out
        obtain ⟨y0, y1, y2, y3, y4, y5⟩ := k6.cells6
        obtain ⟨z0, z1, z2, z3, z4, z5⟩ := k6.free6
        have m6 := mut_set6 k6 h6
        have b7 := below_set6 hb6 (Nat.le_refl _) (.int .u64 (h6 0)) (.int .u64 (h6 1)) (.int .u64 (h6 2)) (.int .u64 (h6 3)) (.int .u64 (h6 4)) (.int .u64 (h6 5))
        have M6 : Hid _ := m6
        have B6 : Hid _ := b7
        have R6 : Hid _ := r6
        have V6 : Hid _ := v6
        clear k6 m6 b7 r6 v6 M2 M4 B4 BL b6 hb6 x0 x1 x2 x3 x4 x5 a0 a1 a2 a3 a4 a5
        go_wp2
        go_roundw
        case rel => exact ⟨j, h6, by omega, by go_num, B6.out, M6.out, R6.out, by rw [V6.out]; exact VF.out⟩
        case measure => simp [intOf]
end Go.Proofs.YtgdmjngajjoliaaDoor.fpn
