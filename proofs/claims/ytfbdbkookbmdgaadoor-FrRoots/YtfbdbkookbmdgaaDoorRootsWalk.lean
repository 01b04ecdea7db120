/- The statement FrRoots's walk, package fr answering as it should. -/
import Derived.Test.YtfbdbkookbmdgaaDoorFC
import Derived.Test.YtfbdbkookbmdgaaDoorYF
namespace Go.Proofs.YtfbdbkookbmdgaaDoor
open Go.RowKit
attribute [local go_sem ↓] Go.wp_at_zero Go.wp_at_succ
set_option linter.unusedVariables false

/-- Two arrays, one behind the other. -/
theorem two_all (w : World) (f g : Nat → Int) (t : TypeId) : ∀ W, W = (w.alloc (.cells #[.int .u64 (f 0), .int .u64 (f 1), .int .u64 (f 2), .int .u64 (f 3)] t)).alloc (.cells #[.int .u64 (g 0), .int .u64 (g 1), .int .u64 (g 2), .int .u64 (g 3)] t) →
    Below w.heap.size w W ∧ W.heap.size = w.heap.size + 2 ∧ Mut W w.heap.size 0 4 f ∧ Mut W (w.heap.size + 1) 0 4 g := by
  rintro W rfl
  have m1 := mut_four w f t
  have m2 := mut_four (w.alloc (.cells #[.int .u64 (f 0), .int .u64 (f 1), .int .u64 (f 2), .int .u64 (f 3)] t)) g t
  rw [World.size_alloc] at m2
  exact ⟨below_two _ _ _, by simp [World.size_alloc], m1.below (below_one _ _) (by rw [World.size_alloc]; omega), m2⟩

theorem frRoots_out {G : World → Prop} (K : FrOk G) (L : Int) (w : World) (hg : G w) (hb : -9223372036854775808 ≤ L ∧ L ≤ 9223372036854775807) (hL : L < 0 ∨ 32 < L) : Calls Tryd.prog 8 #[.int .i64 L] w fun e w' => e = .returned (.bool true) ∧ Below w.heap.size w w' := by
  have HK : Hid _ := K
  clear K
  go_enter Tryd.func8, Tryd.ntmps8
  go_wp2_with fail
  refine Calls.mono (frBegun HK.out _ hg) ?_
  rintro e w1 ⟨rfl, b1⟩
  have g1 := HK.out.stay hg b1
  go_wp2_with fail
  refine Calls.mono (FrOk.rootOut HK.out L _ g1 hb hL) ?_
  rintro e w2 ⟨h2, rfl, r2, v2, b2⟩
  have m2 := mut_four w2 h2 24
  have a2 := below_one w2 (.cells #[.int .u64 (h2 0), .int .u64 (h2 1), .int .u64 (h2 2), .int .u64 (h2 3)] 24)
  have z2 := World.size_alloc w2 (.cells #[.int .u64 (h2 0), .int .u64 (h2 1), .int .u64 (h2 2), .int .u64 (h2 3)] 24)
  go_wp2_with fail
  generalize w2.alloc (.cells #[.int .u64 (h2 0), .int .u64 (h2 1), .int .u64 (h2 2), .int .u64 (h2 3)] 24) = W2 at *
  refine Calls.mono (rootR_out L _ hL) ?_
  rintro e w3 ⟨rfl, b3⟩
  have m3 := (m2.below b3 (by rw [z2]; omega)).below (below_one w3 (.cells #[.int .u64 0, .int .u64 0, .int .u64 0, .int .u64 0] 24)) (by have := b3.size; omega)
  have E1 : ∀ w, (Op.equalIn 10000 24 (.agg #[.int .u64 (h2 0), .int .u64 (h2 1), .int .u64 (h2 2), .int .u64 (h2 3)]) (.agg #[.int .u64 0, .int .u64 0, .int .u64 0, .int .u64 0])).run Tryd.prog w = .ok true w := fun w => eq_yes (g := Z) r2 (Z_rg 4) (by rw [v2, val_Z]) w
  obtain ⟨x0, x1, x2, x3⟩ := m3.cells4
  have BF : Hid _ := Below.up (Below.up (Below.up (Below.up b1 (Nat.le_refl _) b2) (Nat.le_refl _) a2) (Nat.le_refl _) b3) (Nat.le_refl _) (below_one w3 (.cells #[.int .u64 0, .int .u64 0, .int .u64 0, .int .u64 0] 24))
  clear b1 b2 a2 b3 m2 m3 r2 v2 g1 hL hb hg
  go_wp2
  go_ret
  exact ⟨rfl, BF.out⟩

theorem frRoots_in {G : World → Prop} (K : FrOk G) (L : Nat) (w : World) (hg : G w) (hL : L ≤ 32) : Calls Tryd.prog 8 #[.int .i64 L] w fun e w' => e = .returned (.bool true) ∧ Below w.heap.size w w' := by
  have HK : Hid _ := K
  have HG0 : Hid _ := hg
  clear K
  go_enter Tryd.func8, Tryd.ntmps8
  go_wp2_with fail
  refine Calls.mono (frBegun HK.out _ hg) ?_
  rintro e w1 ⟨rfl, b1⟩
  have g1 := HK.out.stay hg b1
  go_wp2_with fail
  refine Calls.mono (FrOk.root HK.out L _ g1 hL) ?_
  rintro e w2 ⟨h2, rfl, r2, v2, b2⟩
  have m2 := mut_four w2 h2 24
  have a2 := below_one w2 (.cells #[.int .u64 (h2 0), .int .u64 (h2 1), .int .u64 (h2 2), .int .u64 (h2 3)] 24)
  have z2 := World.size_alloc w2 (.cells #[.int .u64 (h2 0), .int .u64 (h2 1), .int .u64 (h2 2), .int .u64 (h2 3)] 24)
  go_wp2_with fail
  generalize w2.alloc (.cells #[.int .u64 (h2 0), .int .u64 (h2 1), .int .u64 (h2 2), .int .u64 (h2 3)] 24) = W2 at *
  refine Calls.mono (rootR_any L _ hL) ?_
  rintro e w3 ⟨v, rfl, ⟨h3, rfl, r3, v3⟩, b3⟩
  have a3 := below_one w3 (.cells #[.int .u64 (h3 0), .int .u64 (h3 1), .int .u64 (h3 2), .int .u64 (h3 3)] 24)
  have m3 := (m2.below b3 (by rw [z2]; omega)).below a3 (by have := b3.size; omega)
  have E1 := eq_yes r2 r3 (v2.trans v3.symm)
  have lb : w.heap.size ≤ w2.heap.size := by have := b1.size; have := b2.size; omega
  obtain ⟨x0, x1, x2, x3⟩ := m3.cells4
  have BF : Hid _ := Below.up (Below.up (Below.up (Below.up b1 (Nat.le_refl _) b2) (Nat.le_refl _) a2) (Nat.le_refl _) b3) (Nat.le_refl _) a3
  have GF : Hid _ := HK.out.stay hg BF.out
  have M3 : Hid _ := m3
  have R2 : Hid _ := r2
  have V2 : Hid _ := v2
  have LB : Hid _ := lb
  clear b1 b2 a2 b3 a3 m2 m3 r2 v2 g1 hg r3 v3 lb
  go_wp2_with fail
  generalize w3.alloc (.cells #[.int .u64 (h3 0), .int .u64 (h3 1), .int .u64 (h3 2), .int .u64 (h3 3)] 24) = W at *
  generalize w2.heap.size = b at *
  clear x0 x1 x2 x3 E1
  go_loopw [7] (fun i wr => ∃ (j : Nat) (h : Nat → Int), j ≤ L ∧ i = .int .i64 j ∧ Below w.heap.size w wr ∧ G wr ∧ Mut wr b 0 4 h ∧ Rg h 4 ∧ val h 4 = val gL 4 ^ (2 ^ (32 - L + j)) % RI) (fun i _ => L - (intOf i).toNat)
  case atStart => exact ⟨0, h2, by omega, rfl, BF.out, GF.out, M3.out, R2.out, V2.out⟩
  case round =>
    obtain ⟨j, h, hj, rfl, hbel, hgr, hW, rh, vh⟩ := hrel
    obtain ⟨x0, x1, x2, x3⟩ := hW.cells4
    have bl : b < wr.heap.size := cell_lt x0
    by_cases hlt : j < L
    · have hne : val h 4 ≠ 1 := by rw [vh]; exact root_not (by omega)
      have vs := pow_sq vh
      rw [show 2 * 2 ^ (32 - L + j) = 2 ^ (32 - L + (j + 1)) by rw [← Nat.add_assoc, Nat.pow_succ, Nat.mul_comm]] at vs
      have lh : val h 4 < RI := by rw [vh]; exact modR_lt _
      have HW : Hid _ := hW
      have RH : Hid _ := rh
      have VS : Hid _ := vs
      have LH : Hid _ := lh
      have NE : Hid _ := hne
      have BL : Hid _ := bl
      have HB : Hid _ := hbel
      have HG : Hid _ := hgr
      clear hW rh vs lh hne bl hbel hgr vh
      go_wp2_with fail
      go_region_with (go_at_call 21; refine Calls.mono (FrOk.of HK.out 1 _ ?_ (b64 (by decide) (by decide))) ?_; (first | exact HG.out | exact HK.out.stay HG.out (Below.refl _ _).drew); rintro e y1 ⟨k, rfl, rk, vk, bk⟩; have E1 := eq_no RH.out rk (by rw [vk]; exact NE.out); have bk' : Below wr.heap.size wr y1 := (by first | exact bk | exact below_drew bk); obtain ⟨e0, e1, e2, e3⟩ := (MutK.below HW.out bk' BL.out).cells4; have BK : Hid _ := bk'; clear bk bk' rk vk)
      all_goals
        have k1 := MutK.below HW.out BK.out BL.out
        have g1 := HK.out.stay HG.out BK.out
        have M1 : Hid _ := FrOk.mul HK.out h h y1 g1 RH.out RH.out LH.out LH.out
        have bl1 : b < y1.heap.size := cell_lt e0
        have K1 : Hid _ := k1
        have G1 : Hid _ := g1
        have BL1 : Hid _ := bl1
        clear k1 g1 bl1
        go_wp2_with fail
        refine Calls.mono M1.out ?_
        rintro e y2 ⟨h4, rfl, r4, v4, b4⟩
        have k3 := MutK.below K1.out b4 BL1.out
        obtain ⟨y0, y1, y2, y3⟩ := k3.cells4
        obtain ⟨z0, z1, z2, z3⟩ := k3.free4
        have M4 : Hid _ := mut_set4 k3 h4
        have B4 : Hid _ := below_set4 (Below.up (Below.up HB.out (Nat.le_refl _) BK.out) (Nat.le_refl _) b4) LB.out (.int .u64 (h4 0)) (.int .u64 (h4 1)) (.int .u64 (h4 2)) (.int .u64 (h4 3))
        have R4 : Hid _ := r4
        have V4 : Hid _ := v4
        clear k3 r4 v4 b4 M1 e0 e1 e2 e3 x0 x1 x2 x3
        go_wp2
        go_roundw
        case rel => exact ⟨j + 1, h4, by omega, by go_num, B4.out, HK.out.stay HG0.out B4.out, M4.out, R4.out, by rw [V4.out]; exact VS.out⟩
        case measure => simp [intOf]; omega
    · have e : j = L := by omega
      subst e
      rw [show 32 - j + j = 32 by omega, root32] at vh
      have HW : Hid _ := hW
      have RH : Hid _ := rh
      have VH : Hid _ := vh
      have BL : Hid _ := bl
      have HB : Hid _ := hbel
      have HG : Hid _ := hgr
      clear hW rh bl hbel hgr vh
      go_wp2_with fail
      go_region_with (go_at_call 21; refine Calls.mono (FrOk.of HK.out 1 _ ?_ (b64 (by decide) (by decide))) ?_; (first | exact HG.out | exact HK.out.stay HG.out (Below.refl _ _).drew); rintro e y1 ⟨k, rfl, rk, vk, bk⟩; have E1 := eq_yes RH.out rk (by rw [vk]; exact VH.out); have bk' : Below wr.heap.size wr y1 := (by first | exact bk | exact below_drew bk); obtain ⟨e0, e1, e2, e3⟩ := (MutK.below HW.out bk' BL.out).cells4; have BK : Hid _ := bk'; clear bk bk' rk vk)
      all_goals
        go_wp2
        go_ret
        exact ⟨rfl, Below.up HB.out (Nat.le_refl _) BK.out⟩

theorem frRoots_walk {G : World → Prop} (K : FrOk G) (L : Int) (w : World) (hg : G w) (hb : -9223372036854775808 ≤ L ∧ L ≤ 9223372036854775807) : Calls Tryd.prog 8 #[.int .i64 L] w fun e w' => e = .returned (.bool true) ∧ Below w.heap.size w w' := by
  by_cases h : L < 0 ∨ 32 < L
  · exact frRoots_out K L w hg hb h
  · obtain ⟨n, rfl⟩ := Int.eq_ofNat_of_zero_le (show 0 ≤ L by omega)
    exact frRoots_in K n w hg (by omega)
end Go.Proofs.YtfbdbkookbmdgaaDoor
