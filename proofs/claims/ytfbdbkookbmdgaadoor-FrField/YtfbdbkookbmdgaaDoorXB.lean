/- What the document's WideR, PutR, TakeR answer. -/
import Derived.Test.YtfbdbkookbmdgaaDoorXA
import Derived.Test.YtfbdbkookbmdgaaDoorWQ
namespace Go.Proofs.YtfbdbkookbmdgaaDoor
open Go.RowKit
attribute [local go_sem ↓] Go.wp_at_zero Go.wp_at_succ
set_option linter.unusedVariables false

theorem addR_agg (f g : Nat → Int) (w : World) (rf : Rg f 4) (rg : Rg g 4) (lf : val f 4 < RI) (lg : val g 4 < RI) :
    Calls Tryd.prog 13 #[.agg #[.int .u64 (f 0), .int .u64 (f 1), .int .u64 (f 2), .int .u64 (f 3)], .agg #[.int .u64 (g 0), .int .u64 (g 1), .int .u64 (g 2), .int .u64 (g 3)]] w fun e w' => ∃ h, e = .returned (.agg #[.int .u64 (h 0), .int .u64 (h 1), .int .u64 (h 2), .int .u64 (h 3)]) ∧ Rg h 4 ∧ val h 4 = (val f 4 + val g 4) % RI ∧ Below w.heap.size w w' := by
  refine Calls.mono (addR_any f g w rf rg lf lg) ?_
  rintro e w' ⟨v, rfl, ⟨h, rfl, r, v⟩, b⟩
  exact ⟨h, rfl, r, v, b⟩

/-- The number that n bytes are, the highest first. -/
def bv (g : Nat → Int) : Nat → Int
  | 0 => 0
  | n + 1 => bv g n * 256 + g n

/-- A step of WideR. -/
theorem wide_step {g : Nat → Int} {j : Nat} {H M : Int} (h : H = bv g j % RI) (hM : M = H * 256 % RI) : (M + g j) % RI = bv g (j + 1) % RI := by
  rw [hM, h, mul_mod_l, Int.emod_add_emod]; rfl

theorem mulR_256 (h : Nat → Int) (w : World) (rh : Rg h 4) :
    Calls Tryd.prog 58 #[.agg #[.int .u64 (h 0), .int .u64 (h 1), .int .u64 (h 2), .int .u64 (h 3)], .agg #[.int .u64 256, .int .u64 0, .int .u64 0, .int .u64 0]] w fun e w' => ∃ k, e = .returned (.agg #[.int .u64 (k 0), .int .u64 (k 1), .int .u64 (k 2), .int .u64 (k 3)]) ∧ Rg k 4 ∧ val k 4 = val h 4 * 256 % RI ∧ Below w.heap.size w w' := by
  have := mulR_agg h (one 256) w rh (one_rg ⟨by decide, by rw [B64_eq]; decide⟩ 4) (by rw [val_one4]; decide)
  rw [val_one4] at this
  exact this
theorem addR_byte (h : Nat → Int) (x : Int) (w : World) (rh : Rg h 4) (lh : val h 4 < RI) (hx : 0 ≤ x ∧ x < 256) :
    Calls Tryd.prog 13 #[.agg #[.int .u64 (h 0), .int .u64 (h 1), .int .u64 (h 2), .int .u64 (h 3)], .agg #[.int .u64 x, .int .u64 0, .int .u64 0, .int .u64 0]] w fun e w' => ∃ k, e = .returned (.agg #[.int .u64 (k 0), .int .u64 (k 1), .int .u64 (k 2), .int .u64 (k 3)]) ∧ Rg k 4 ∧ val k 4 = (val h 4 + x) % RI ∧ Below w.heap.size w w' := by
  have := addR_agg h (one x) w rh (one_rg ⟨hx.1, by rw [B64_eq]; omega⟩ 4) lh (by rw [val_one4]; have : (256 : Int) < RI := by decide
                                                                                  omega)
  rw [val_one4] at this
  exact this

theorem wideR_any (p : Option Addr) (n cap : Nat) (g : Nat → Int) (w : World) (hc : AtK .u8 w p n g) (hg : ∀ j, j < n → 0 ≤ g j ∧ g j < 256) (hN : n ≤ 100000) :
    Calls Tryd.prog 34 #[.slice p n cap] w fun e w' => ∃ v, e = .returned v ∧ IsFr v (bv g n % RI) ∧ Below w.heap.size w w' := by
  have hR : Mut (w.alloc (.cells #[.int .u64 0, .int .u64 0, .int .u64 0, .int .u64 0] 24)) w.heap.size 0 4 Z := mut_noughts w _
  have hX := mut_four (w.alloc (.cells #[.int .u64 0, .int .u64 0, .int .u64 0, .int .u64 0] 24)) Z 24
  have b1 := below_one w (.cells #[.int .u64 0, .int .u64 0, .int .u64 0, .int .u64 0] 24)
  have b2 := below_one (w.alloc (.cells #[.int .u64 0, .int .u64 0, .int .u64 0, .int .u64 0] 24)) (.cells #[.int .u64 0, .int .u64 0, .int .u64 0, .int .u64 0] 24)
  have z1 := World.size_alloc w (.cells #[.int .u64 0, .int .u64 0, .int .u64 0, .int .u64 0] 24)
  have hc1 := hc.below b1
  go_enter Tryd.func34, Tryd.ntmps34
  go_wp2_with fail
  generalize w.alloc (.cells #[.int .u64 0, .int .u64 0, .int .u64 0, .int .u64 0] 24) = W1 at *
  rw [z1] at hX b2
  have HR : Hid _ := hR
  have HX : Hid _ := hX
  have HB1 : Hid _ := b1
  have HB2 : Hid _ := b2
  have Z1 : Hid _ := z1
  have HC : Hid _ := hc1
  have HG : Hid _ := hg
  clear hR hX b1 b2 z1 hc hc1 hg
  go_loopw [4] (fun i wr => ∃ (j : Nat) (h : Nat → Int), j ≤ n ∧ i = .int .i64 j ∧ Below (w.heap.size + 1) W1 wr ∧ Mut wr (w.heap.size + 1) 0 4 h ∧ Rg h 4 ∧ val h 4 = bv g j % RI) (fun i _ => n - (intOf i).toNat)
  case atStart => exact ⟨0, Z, Nat.zero_le _, rfl, HB2.out, HX.out, Z_rg 4, by rw [val_Z]; rfl⟩
  case round =>
    obtain ⟨j, h, hj2, rfl, hbel, hW, rh, vh⟩ := hrel
    by_cases hlt : j < n
    · obtain ⟨x0, x1, x2, x3⟩ := hW.cells4
      obtain ⟨b, off, rfl, hcb⟩ := HC.out (by omega)
      have cl : b < w.heap.size + 1 := by rw [← Z1.out]; exact cell_lt (hcb j hlt)
      have c0 : wr.cell? ⟨b, off + j, none⟩ = some (.int .u8 (g j)) := (hbel.cell (p := ⟨b, off + j, none⟩) cl).trans (hcb j hlt)
      have bl : w.heap.size + 1 < wr.heap.size := cell_lt x0
      have gj := HG.out j hlt
      have ew : IntKind.u64.wrap (g j) = g j := by rw [IntKind.wrap_u64]; omega
      have EW : Hid _ := ew
      have GJ : Hid _ := gj
      have CL : Hid (b < wr.heap.size) := Nat.lt_trans cl bl
      have C0 : Hid _ := c0
      have BL : Hid _ := bl
      have HW : Hid _ := hW
      have HB : Hid _ := hbel
      have RH : Hid _ := rh
      have VH : Hid _ := vh
      clear bl hW hbel rh vh hcb cl ew gj
      go_wp2_with fail
      go_region_with (first
        | (go_at_call_of 57 (256 : Int); refine Calls.mono (refOf_any _ _) ?_; rintro e w2 ⟨rfl, b2⟩; have hb2 : Below wr.heap.size wr w2 := (by first | exact b2 | exact below_drew b2); obtain ⟨p0, p1, p2, p3⟩ := (MutK.below HW.out hb2 BL.out).cells4; have c2 : w2.cell? ⟨b, off + j, none⟩ = some (.int .u8 (g j)) := (hb2.cell (p := ⟨b, off + j, none⟩) CL.out).trans C0.out; have HB2 : Hid _ := hb2; clear b2 hb2)
        | (go_at_call 58; refine Calls.mono (mulR_256 h _ RH.out) ?_; rintro e w3 ⟨h3, rfl, r3, v3, b3⟩; have hb3 : Below wr.heap.size wr w3 := Below.up HB2.out (Nat.le_refl _) b3; have c3 : w3.cell? ⟨b, off + j, none⟩ = some (.int .u8 (g j)) := (hb3.cell (p := ⟨b, off + j, none⟩) CL.out).trans C0.out; have HB3 : Hid _ := hb3; have R3 : Hid _ := r3; have V3 : Hid _ := v3; clear b3 hb3 r3 v3)
        | (go_at_call 57; refine Calls.mono (refOf_any _ _) ?_; rintro e w4 ⟨rfl, b4⟩; have HB4 : Hid (Below wr.heap.size wr w4) := Below.up HB3.out (Nat.le_refl _) b4; clear b4)
        | (go_at_call 13; rw [EW.out]; refine Calls.mono (addR_byte h3 (g j) _ R3.out (by rw [V3.out]; exact modR_lt _) GJ.out) ?_; rintro e w5 ⟨h5, rfl, r5, v5, b5⟩; have hb5 : Below wr.heap.size wr w5 := Below.up HB4.out (Nat.le_refl _) b5; have k5 := MutK.below HW.out hb5 BL.out; obtain ⟨y0, y1, y2, y3⟩ := k5.cells4; obtain ⟨z0, z1, z2, z3⟩ := k5.free4; have M5 : Hid _ := mut_set4 k5 h5; have B5 : Hid _ := below_set4 (Below.trans HB.out (hb5.mono (Nat.le_of_lt BL.out))) (Nat.le_refl _) (.int .u64 (h5 0)) (.int .u64 (h5 1)) (.int .u64 (h5 2)) (.int .u64 (h5 3)); have R5 : Hid _ := r5; have V5 : Hid _ := v5; clear k5 r5 v5 b5 hb5))
      all_goals
        go_wp2
        go_roundw
        case rel => exact ⟨j + 1, h5, by omega, by go_num, B5.out, M5.out, R5.out, by rw [V5.out]; exact wide_step VH.out V3.out⟩
        case measure => simp [intOf]; omega
    · have e : n = j := by omega
      subst e
      obtain ⟨x0, x1, x2, x3⟩ := hW.cells4
      obtain ⟨y0, y1, y2, y3⟩ := (MutK.below HR.out hbel (by omega)).cells4
      obtain ⟨z0, z1, z2, z3⟩ := (MutK.below HR.out hbel (by omega)).free4
      have HB : Hid _ := Below.trans HB1.out (hbel.mono (Nat.le_succ _))
      have RH : Hid _ := rh
      have VH : Hid _ := vh
      clear hbel hW rh vh
      go_wp2
      refine bodyPost_ret (v := .agg #[.int .u64 (h 0), .int .u64 (h 1), .int .u64 (h 2), .int .u64 (h 3)]) (by simp [results, Tryd.results34, go_sem, y0, y1, y2, y3]) rfl ⟨_, rfl, ⟨h, rfl, RH.out, VH.out⟩, ?_⟩
      exact below_set4 HB.out (by omega) _ _ _ _
end Go.Proofs.YtfbdbkookbmdgaaDoor
