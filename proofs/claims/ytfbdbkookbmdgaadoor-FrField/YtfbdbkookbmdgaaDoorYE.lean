/- What scalar, Put, Take and Wide of package fr answer. -/
import Derived.Test.YtfbdbkookbmdgaaDoorYD
import Derived.Test.YtfbdbkookbmdgaaDoorXC
namespace Go.Proofs.YtfbdbkookbmdgaaDoor
open Go.RowKit
attribute [local go_sem ↓] Go.wp_at_zero Go.wp_at_succ
set_option linter.unusedVariables false

/-- A number below 2^256 without noughts on top has at most four limbs. -/
theorem nm_le4 {h : Nat → Int} {n : Nat} (rh : Rg h n) (m : Nm h n) (l : val h n < pw 4) : n ≤ 4 := by
  rcases Nat.lt_or_ge 4 n with h4 | h4
  · exfalso
    obtain ⟨k, rfl⟩ : ∃ k, n = k + 1 := ⟨n - 1, by omega⟩
    have b := nm_lb rh m
    have p := pw_mono (show 4 ≤ k by omega)
    omega
  · exact h4

theorem scalar_any (p : Option Addr) (n cap : Nat) (f : Nat → Int) (w : World) (hn : n ≤ 4) (ha : At w p n f) (rf : Rg f n) : Calls Tryd.prog 60 #[.slice p n cap] w fun e w' => ∃ h : Nat → Int, e = .returned (.agg #[.int .u64 (h 0), .int .u64 (h 1), .int .u64 (h 2), .int .u64 (h 3)]) ∧ Rg h 4 ∧ val h 4 = val f n ∧ Below w.heap.size w w' := by
  obtain ⟨m1, m0⟩ := mut_two w 24 24
  have hB := below_two w (.cells #[.int .u64 0, .int .u64 0, .int .u64 0, .int .u64 0] 24) (.cells #[.int .u64 0, .int .u64 0, .int .u64 0, .int .u64 0] 24)
  have ha' := ha.below hB
  have RL : Hid _ := lm_rg rf 4
  have VL : Hid _ := val_lm f n 4 hn
  clear rf
  go_enter Tryd.func60, Tryd.ntmps60
  go_wp2_with (refine wpList_copy_lim .u64 (by rfl) (.tmp 4) (.tmp 5) 30 30 (by rfl) 22 Tryd.underlying30 size64 (w.heap.size + 1) 0 4 4 p n cap Z f (by rfl) (by rfl) m1 ha' hn ?_; intro w4 hu4 hm4; have k4 : Mut w4 (w.heap.size + 1) 0 4 (lm f n) := hm4; obtain ⟨x0, x1, x2, x3⟩ := k4.cells4; obtain ⟨y0, y1, y2, y3⟩ := (m0.upd hu4 (by omega)).cells4; obtain ⟨z0, z1, z2, z3⟩ := (m0.upd hu4 (by omega)).free4; have HU : Hid _ := hu4; have HB : Hid _ := hB; clear hm4 k4 m1 m0 hu4 hB ha ha')
  refine bodyPost_ret (v := .agg #[.int .u64 ((lm f n) 0), .int .u64 ((lm f n) 1), .int .u64 ((lm f n) 2), .int .u64 ((lm f n) 3)]) (by simp [results, Tryd.results60, go_sem, y0, y1, y2, y3]) rfl ⟨lm f n, rfl, RL.out, VL.out, ?_⟩
  exact ((((Below.trans HB.out (Upd.below HU.out (by omega))).setCell (Nat.le_refl _) _).setCell (Nat.le_refl _) _).setCell (Nat.le_refl _) _).setCell (Nat.le_refl _) _

theorem frPut_any (f : Nat → Int) (w : World) (rf : Rg f 4) : Calls Tryd.prog 31 #[.agg #[.int .u64 (f 0), .int .u64 (f 1), .int .u64 (f 2), .int .u64 (f 3)]] w fun e w' => ∃ p c, e = .returned (.slice p 32 c) ∧ AtK .u8 w' p 32 (fun j => byt f 4 (32 - 1 - j)) ∧ 32 ≤ c ∧ c ≤ 9223372036854775807 ∧ Below w.heap.size w w' := by
  have hA := mut_four w f 24
  have B1 := below_one w (.cells #[.int .u64 (f 0), .int .u64 (f 1), .int .u64 (f 2), .int .u64 (f 3)] 24)
  have sz1 : sz f 4 ≤ 32 := by have := sz_le8 rf; have := tl_le f 4; omega
  go_enter Tryd.func31, Tryd.ntmps31
  go_wp2_with fail
  generalize w.alloc (.cells #[.int .u64 (f 0), .int .u64 (f 1), .int .u64 (f 2), .int .u64 (f 3)] 24) = W at *
  refine Calls.mono (put_any (some ⟨w.heap.size, 0, none⟩) 4 4 32 f W (by omega) (by omega) hA.at rf (by omega) sz1 (by omega)) ?_
  rintro e w2 ⟨rfl, b2, -, m2⟩
  have HM : Hid _ := m2
  have HB : Hid _ := Below.up B1 (Nat.le_refl _) b2
  clear m2 b2 hA B1 sz1
  go_wp2
  go_ret
  exact ⟨_, 32, rfl, MutK.at HM.out, Nat.le_refl _, by decide, HB.out⟩

theorem frTake_short (p : Option Addr) (n cap : Nat) (w : World) (hn : n < 32) : Calls Tryd.prog 29 #[.slice p n cap] w fun e w' => ∃ h : Nat → Int, e = .returned (.tuple #[.agg #[.int .u64 (h 0), .int .u64 (h 1), .int .u64 (h 2), .int .u64 (h 3)], .int .i64 2]) ∧ Rg h 4 ∧ val h 4 = 0 ∧ Below w.heap.size w w' := by
  go_enter Tryd.func29, Tryd.ntmps29
  go_wp2
  refine bodyPost_ret (v := .tuple #[.agg #[.int .u64 0, .int .u64 0, .int .u64 0, .int .u64 0], .int .i64 2]) (by simp [results, Tryd.results29, go_sem]) rfl ⟨Z, rfl, Z_rg 4, val_Z 4, below_one _ _⟩
theorem frTake_long (p : Option Addr) (n cap : Nat) (w : World) (hn : 32 < n) : Calls Tryd.prog 29 #[.slice p n cap] w fun e w' => ∃ h : Nat → Int, e = .returned (.tuple #[.agg #[.int .u64 (h 0), .int .u64 (h 1), .int .u64 (h 2), .int .u64 (h 3)], .int .i64 8]) ∧ Rg h 4 ∧ val h 4 = 0 ∧ Below w.heap.size w w' := by
  have h0 : ¬ (n : Int) < 32 := by omega
  go_enter Tryd.func29, Tryd.ntmps29
  go_wp2
  refine bodyPost_ret (v := .tuple #[.agg #[.int .u64 0, .int .u64 0, .int .u64 0, .int .u64 0], .int .i64 8]) (by simp [results, Tryd.results29, go_sem]) rfl ⟨Z, rfl, Z_rg 4, val_Z 4, below_one _ _⟩

theorem frTake_big (p : Option Addr) (cap : Nat) (g : Nat → Int) (w : World) (hc32 : 32 ≤ cap) (hc : AtK .u8 w p 32 g) (hg : ∀ j, j < 32 → 0 ≤ g j ∧ g j < 256) (hl : RI ≤ bv g 32) : Calls Tryd.prog 29 #[.slice p 32 cap] w fun e w' => ∃ h : Nat → Int, e = .returned (.tuple #[.agg #[.int .u64 (h 0), .int .u64 (h 1), .int .u64 (h 2), .int .u64 (h 3)], .int .i64 4]) ∧ Rg h 4 ∧ val h 4 = 0 ∧ Below w.heap.size w w' := by
  have hR : Mut (w.alloc (.cells #[.int .u64 0, .int .u64 0, .int .u64 0, .int .u64 0] 24)) w.heap.size 0 4 Z := mut_noughts w _
  have b1 := below_one w (.cells #[.int .u64 0, .int .u64 0, .int .u64 0, .int .u64 0] 24)
  have z1 := World.size_alloc w (.cells #[.int .u64 0, .int .u64 0, .int .u64 0, .int .u64 0] 24)
  have hc1 := hc.below b1
  have pb := pl_bv g 32
  go_enter Tryd.func29, Tryd.ntmps29
  go_wp2_with fail
  generalize w.alloc (.cells #[.int .u64 0, .int .u64 0, .int .u64 0, .int .u64 0] 24) = W at *
  refine Calls.mono (take_any p 32 cap g W hc32 hc1 hg (by omega)) ?_
  rintro e w2 ⟨v, rfl, b2, b, off, n2, c2, h, rfl, -, -, l1, l2, a2, r2, nm, v2⟩
  rw [show (32 + 7) / 8 = 4 from rfl] at v2 pb l2
  have S : Hid _ := scalar_any (some ⟨b, off, none⟩) n2 c2 h w2 (by omega) a2.at r2
  have b3 := Below.up b1 (Nat.le_refl _) b2
  have hR2 := hR.below b2 (by rw [z1]; omega)
  have HL : Hid (w.heap.size + 1 ≤ w2.heap.size) := by have := b2.size; show _ ≤ _; omega
  rw [v2, pb] at S
  clear hc hc1 hg v2 pb r2 a2 nm l1 l2 hR b1 b2 z1
  go_wp2_with fail
  refine Calls.mono S.out ?_
  rintro e w3 ⟨k, rfl, rk, vk, b4⟩
  have b5 := Below.up b3 (Nat.le_refl _) b4
  have hR3 := hR2.below b4 (by have := HL.out; omega)
  have HL3 : Hid (w.heap.size + 1 ≤ w3.heap.size) := by have := b4.size; have := HL.out; show _ ≤ _; omega
  have K : Hid _ := fun W => frMay_any k W rk
  rw [vk, decide_eq_false (show ¬ bv g 32 < RI by omega)] at K
  have hX := mut_four w3 k 24
  have c3 := below_one w3 (.cells #[.int .u64 (k 0), .int .u64 (k 1), .int .u64 (k 2), .int .u64 (k 3)] 24)
  have z3 := World.size_alloc w3 (.cells #[.int .u64 (k 0), .int .u64 (k 1), .int .u64 (k 2), .int .u64 (k 3)] 24)
  have VK : Hid _ := vk
  have RK : Hid _ := rk
  clear hR2 HL b3 b4 S vk rk hl
  go_wp2_with fail
  generalize w3.alloc (.cells #[.int .u64 (k 0), .int .u64 (k 1), .int .u64 (k 2), .int .u64 (k 3)] 24) = W3 at *
  refine Calls.mono (K.out W3) ?_
  rintro e w4 ⟨rfl, b6⟩
  obtain ⟨x0, x1, x2, x3⟩ := (hX.below b6 (by rw [z3]; omega)).cells4
  have b7 := Below.up c3 (Nat.le_refl _) b6
  have hR4 := hR3.below b7 (by have := HL3.out; omega)
  obtain ⟨y0, y1, y2, y3⟩ := hR4.cells4
  obtain ⟨z0, z1, z2, z4⟩ := hR4.free4
  have HB : Hid _ := Below.up b5 (Nat.le_refl _) b7
  clear hX hR3 hR4 b5 b6 b7 c3 z3
  go_wp2
  refine bodyPost_ret (v := .tuple #[.agg #[.int .u64 0, .int .u64 0, .int .u64 0, .int .u64 0], .int .i64 4]) (by simp [results, Tryd.results29, go_sem, y0, y1, y2, y3]) rfl ⟨Z, rfl, Z_rg 4, val_Z 4, ?_⟩
  exact below_set4 HB.out (by omega) _ _ _ _

theorem frTake_ok (p : Option Addr) (cap : Nat) (g : Nat → Int) (w : World) (hc32 : 32 ≤ cap) (hc : AtK .u8 w p 32 g) (hg : ∀ j, j < 32 → 0 ≤ g j ∧ g j < 256) (hl : bv g 32 < RI) : Calls Tryd.prog 29 #[.slice p 32 cap] w fun e w' => ∃ h : Nat → Int, e = .returned (.tuple #[.agg #[.int .u64 (h 0), .int .u64 (h 1), .int .u64 (h 2), .int .u64 (h 3)], .int .i64 0]) ∧ Rg h 4 ∧ val h 4 = bv g 32 ∧ Below w.heap.size w w' := by
  have hR : Mut (w.alloc (.cells #[.int .u64 0, .int .u64 0, .int .u64 0, .int .u64 0] 24)) w.heap.size 0 4 Z := mut_noughts w _
  have b1 := below_one w (.cells #[.int .u64 0, .int .u64 0, .int .u64 0, .int .u64 0] 24)
  have z1 := World.size_alloc w (.cells #[.int .u64 0, .int .u64 0, .int .u64 0, .int .u64 0] 24)
  have hc1 := hc.below b1
  have pb := pl_bv g 32
  go_enter Tryd.func29, Tryd.ntmps29
  go_wp2_with fail
  generalize w.alloc (.cells #[.int .u64 0, .int .u64 0, .int .u64 0, .int .u64 0] 24) = W at *
  refine Calls.mono (take_any p 32 cap g W hc32 hc1 hg (by omega)) ?_
  rintro e w2 ⟨v, rfl, b2, b, off, n2, c2, h, rfl, -, -, l1, l2, a2, r2, nm, v2⟩
  rw [show (32 + 7) / 8 = 4 from rfl] at v2 pb l2
  have S : Hid _ := scalar_any (some ⟨b, off, none⟩) n2 c2 h w2 (by omega) a2.at r2
  have b3 := Below.up b1 (Nat.le_refl _) b2
  have hR2 := hR.below b2 (by rw [z1]; omega)
  have HL : Hid (w.heap.size + 1 ≤ w2.heap.size) := by have := b2.size; show _ ≤ _; omega
  rw [v2, pb] at S
  clear hc hc1 hg v2 pb r2 a2 nm l1 l2 hR b1 b2 z1
  go_wp2_with fail
  refine Calls.mono S.out ?_
  rintro e w3 ⟨k, rfl, rk, vk, b4⟩
  have b5 := Below.up b3 (Nat.le_refl _) b4
  have hR3 := hR2.below b4 (by have := HL.out; omega)
  have HL3 : Hid (w.heap.size + 1 ≤ w3.heap.size) := by have := b4.size; have := HL.out; show _ ≤ _; omega
  have K : Hid _ := fun W => frMay_any k W rk
  rw [vk, decide_eq_true hl] at K
  have hX := mut_four w3 k 24
  have c3 := below_one w3 (.cells #[.int .u64 (k 0), .int .u64 (k 1), .int .u64 (k 2), .int .u64 (k 3)] 24)
  have z3 := World.size_alloc w3 (.cells #[.int .u64 (k 0), .int .u64 (k 1), .int .u64 (k 2), .int .u64 (k 3)] 24)
  have VK : Hid _ := vk
  have RK : Hid _ := rk
  clear hR2 HL b3 b4 S vk rk hl
  go_wp2_with fail
  generalize w3.alloc (.cells #[.int .u64 (k 0), .int .u64 (k 1), .int .u64 (k 2), .int .u64 (k 3)] 24) = W3 at *
  refine Calls.mono (K.out W3) ?_
  rintro e w4 ⟨rfl, b6⟩
  obtain ⟨x0, x1, x2, x3⟩ := (hX.below b6 (by rw [z3]; omega)).cells4
  have b7 := Below.up c3 (Nat.le_refl _) b6
  have hR4 := hR3.below b7 (by have := HL3.out; omega)
  obtain ⟨y0, y1, y2, y3⟩ := hR4.cells4
  obtain ⟨z0, z1, z2, z4⟩ := hR4.free4
  have HB : Hid _ := Below.up b5 (Nat.le_refl _) b7
  clear hX hR3 hR4 b5 b6 b7 c3 z3
  go_wp2
  refine bodyPost_ret (v := .tuple #[.agg #[.int .u64 (k 0), .int .u64 (k 1), .int .u64 (k 2), .int .u64 (k 3)], .int .i64 0]) (by simp [results, Tryd.results29, go_sem, y0, y1, y2, y3]) rfl ⟨k, rfl, RK.out, VK.out, ?_⟩
  exact below_set4 HB.out (by omega) _ _ _ _

theorem frWide_any (p : Option Addr) (n cap : Nat) (g : Nat → Int) (w : World) (hn : n ≤ cap) (hc : AtK .u8 w p n g) (hg : ∀ j, j < n → 0 ≤ g j ∧ g j < 256) (hN : n ≤ 192) : Calls Tryd.prog 33 #[.slice p n cap] w fun e w' => ∃ h : Nat → Int, e = .returned (.agg #[.int .u64 (h 0), .int .u64 (h 1), .int .u64 (h 2), .int .u64 (h 3)]) ∧ Rg h 4 ∧ val h 4 = bv g n % RI ∧ Below w.heap.size w w' := by
  have hR : Mut (w.alloc (.cells #[.int .u64 0, .int .u64 0, .int .u64 0, .int .u64 0] 24)) w.heap.size 0 4 Z := mut_noughts w _
  have b1 := below_one w (.cells #[.int .u64 0, .int .u64 0, .int .u64 0, .int .u64 0] 24)
  have z1 := World.size_alloc w (.cells #[.int .u64 0, .int .u64 0, .int .u64 0, .int .u64 0] 24)
  have hc1 := hc.below b1
  have pb := pl_bv g n
  go_enter Tryd.func33, Tryd.ntmps33
  go_wp2_with fail
  generalize w.alloc (.cells #[.int .u64 0, .int .u64 0, .int .u64 0, .int .u64 0] 24) = W at *
  refine Calls.mono (take_any p n cap g W hn hc1 hg (by omega)) ?_
  rintro e w2 ⟨v, rfl, b2, b, off, n2, c2, h, rfl, -, -, l1, l2, a2, r2, nm, v2⟩
  rw [pb] at v2
  clear pb hc hc1 hg
  have HL : Hid (w.heap.size + 1 ≤ w2.heap.size) := by have := b2.size; show _ ≤ _; omega
  have hR2 := hR.below b2 (by rw [z1]; omega)
  have b3 := Below.up b1 (Nat.le_refl _) b2
  clear hR b1 b2 z1
  go_wp2_with fail
  refine Calls.mono (frR_any w2) ?_
  rintro e w3 ⟨pr, cr, rfl, ar, l3, l4, b4⟩
  have a3 := a2.at.below b4
  have RS : Hid _ := rest_any (some ⟨b, off, none⟩) pr n2 4 c2 cr h rL w3 l1 (by omega) l3 l4 a3 ar r2 rL_rg (by omega) (by omega) (by rw [rL_val]; decide)
  rw [v2, rL_val] at RS
  have hR3 := hR2.below b4 (by have := HL.out; omega)
  have b5 := Below.up b3 (Nat.le_refl _) b4
  have HL3 : Hid (w.heap.size + 1 ≤ w3.heap.size) := by have := b4.size; have := HL.out; show _ ≤ _; omega
  clear a2 a3 ar r2 v2 nm l1 l2 l3 l4 hR2 b3 b4 HL
  go_wp2_with fail
  refine Calls.mono RS.out ?_
  rintro e w4 ⟨v, rfl, b6, b', off', n4, c4, h4, rfl, -, -, q1, q2, a4, r4, nm4, v4⟩
  have l4 := nm_le4 r4 nm4 (by rw [v4]; have := modR_lt (bv g n); have : RI < pw 4 := by decide +kernel
                               omega)
  have S : Hid _ := scalar_any (some ⟨b', off', none⟩) n4 c4 h4 w4 l4 a4.at r4
  rw [v4] at S
  have hR4 := hR3.below b6 (by have := HL3.out; omega)
  have b7 := Below.up b5 (Nat.le_refl _) b6
  have HL4 : Hid (w.heap.size + 1 ≤ w4.heap.size) := by have := b6.size; have := HL3.out; show _ ≤ _; omega
  clear RS hR3 b5 b6 q1 q2 a4 r4 nm4 v4 l4 HL3
  go_wp2_with fail
  refine Calls.mono S.out ?_
  rintro e w5 ⟨k, rfl, rk, vk, b8⟩
  have hR5 := hR4.below b8 (by have := HL4.out; omega)
  obtain ⟨y0, y1, y2, y3⟩ := hR5.cells4
  obtain ⟨z0, z1, z2, z4⟩ := hR5.free4
  have HB : Hid _ := Below.up b7 (Nat.le_refl _) b8
  have RK : Hid _ := rk
  have VK : Hid _ := vk
  clear hR4 hR5 b7 b8 rk vk
  go_wp2
  refine bodyPost_ret (v := .agg #[.int .u64 (k 0), .int .u64 (k 1), .int .u64 (k 2), .int .u64 (k 3)]) (by simp [results, Tryd.results33, go_sem, y0, y1, y2, y3]) rfl ⟨k, rfl, RK.out, VK.out, ?_⟩
  exact below_set4 HB.out (by omega) _ _ _ _
end Go.Proofs.YtfbdbkookbmdgaaDoor
