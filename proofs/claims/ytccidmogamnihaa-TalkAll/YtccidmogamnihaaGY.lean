/- YA YB YC YD YE. -/
import Derived.Test.YtccidmogamnihaaGB
import Derived.Deep.RegionWith
import Derived.Deep.RegionHeld3
import Derived.ScopeJumps
/- What the inner functions mulAdd, lessR, plusR, bring of package fr answer, and Of, R, May, Add, Sub, Neg. -/
namespace Go.Proofs.Ytccidmogamnihaa
open Go.RowKit
attribute [local go_sem ↓] Go.wp_at_zero Go.wp_at_succ
set_option linter.unusedVariables false

theorem frR_any (w : World) : Calls Try.prog 31 #[] w fun e w' => ∃ p c, e = .returned (.slice p 4 c) ∧ At w' p 4 rL ∧ 4 ≤ c ∧ c ≤ 9223372036854775807 ∧ Below w.heap.size w w' := by
  go_enter Try.func31, Try.ntmps31
  go_wp2
  go_ret
  exact ⟨_, 4, rfl, (mut_four w rL _).at, Nat.le_refl _, by decide, below_one _ _⟩

end Go.Proofs.Ytccidmogamnihaa

/- What fr.times answers: Montgomery's product. -/
namespace Go.Proofs.Ytccidmogamnihaa
open Go.RowKit
attribute [local go_sem ↓] Go.wp_at_zero Go.wp_at_succ
set_option linter.unusedVariables false

def fm (s : Nat → Int) : Int := s 0 * 18446744069414584319 % B64
theorem fm_bd (s : Nat → Int) : 0 ≤ fm s ∧ fm s < B64 := ⟨Int.emod_nonneg _ (by rw [B64_eq]; decide), Int.emod_lt_of_pos _ B64_pos⟩
theorem fm_zero (s : Nat → Int) : tm s rL (fm s) 0 = 0 := by
  unfold tm fm
  rw [show rL 0 = 18446744069414584321 from rfl, show ct s rL (s 0 * 18446744069414584319 % B64) 0 = 0 from rfl, Int.add_zero, Int.add_emod, mul_mod_r, ← Int.add_emod]
  rw [show (18446744069414584321 : Int) * (s 0 * 18446744069414584319) + s 0 = B64 * (s 0 * 18446744065119617025) by rw [B64_eq]; omega]
  exact Int.mul_emod_right _ _

def nt (t g : Nat → Int) (k : Int) : Nat → Int
  | 0 => tm (tm t g k) rL (fm (tm t g k)) 1
  | 1 => tm (tm t g k) rL (fm (tm t g k)) 2
  | 2 => tm (tm t g k) rL (fm (tm t g k)) 3
  | _ => ct t g k 4 + ct (tm t g k) rL (fm (tm t g k)) 4

theorem nt_val (t g : Nat → Int) (k : Int) : val (nt t g k) 4 * B64 = val t 4 + val g 4 * k + RI * fm (tm t g k) := by
  have e1 := val_tm t g k 4
  have e2 := val_tm (tm t g k) rL (fm (tm t g k)) 4
  have z := fm_zero (tm t g k)
  rw [rL_val] at e2
  simp only [val, pw, nt, z] at e1 e2 ⊢
  generalize fm (tm t g k) = m at *
  generalize tm (tm t g k) rL m 1 = a1 at *
  generalize tm (tm t g k) rL m 2 = a2 at *
  generalize tm (tm t g k) rL m 3 = a3 at *
  generalize ct (tm t g k) rL m 4 = c2 at *
  generalize ct t g k 4 = c1 at *
  generalize tm t g k 0 = s0 at *
  generalize tm t g k 1 = s1 at *
  generalize tm t g k 2 = s2 at *
  generalize tm t g k 3 = s3 at *
  grind

def TJ (f g t : Nat → Int) (j : Nat) : Prop := Rg t 4 ∧ ∃ Q : Int, val t 4 * pw j = val f j * val g 4 + Q * RI ∧ 0 ≤ Q ∧ Q < pw j

theorem TJ.lt {f g t : Nat → Int} {j : Nat} (h : TJ f g t j) (rf : Rg f j) (rg : Rg g 4) (lg : val g 4 < RI) : val t 4 < 2 * RI := by
  obtain ⟨-, Q, h1, h2, h3⟩ := h
  exact mont_lt h1 (val_bd rf) ⟨(val_bd rg).1, lg⟩ ⟨h2, h3⟩

theorem nt_top {t g : Nat → Int} {k : Int} (rt : Rg t 4) (rg : Rg g 4) (hk : 0 ≤ k ∧ k < B64) (h : val (nt t g k) 4 < 2 * RI) : 0 ≤ nt t g k 3 ∧ nt t g k 3 < B64 := by
  have c1 := (ct_bd rt rg hk).1
  have c2 := (ct_bd (tm_rg t g k 4) rL_rg (fm_bd (tm t g k))).1
  have a0 := (tm_rg (tm t g k) rL (fm (tm t g k)) 4 1 (by omega)).1
  have a1 := (tm_rg (tm t g k) rL (fm (tm t g k)) 4 2 (by omega)).1
  have a2 := (tm_rg (tm t g k) rL (fm (tm t g k)) 4 3 (by omega)).1
  simp only [val, pw] at h
  have e0 : nt t g k 0 = tm (tm t g k) rL (fm (tm t g k)) 1 := rfl
  have e1 : nt t g k 1 = tm (tm t g k) rL (fm (tm t g k)) 2 := rfl
  have e2 : nt t g k 2 = tm (tm t g k) rL (fm (tm t g k)) 3 := rfl
  have e3 : nt t g k 3 = ct t g k 4 + ct (tm t g k) rL (fm (tm t g k)) 4 := rfl
  rw [← e0] at a0
  rw [← e1] at a1
  rw [← e2] at a2
  generalize nt t g k 0 = x0 at *
  generalize nt t g k 1 = x1 at *
  generalize nt t g k 2 = x2 at *
  generalize nt t g k 3 = x3 at *
  unfold RI at h
  rw [B64_eq] at *
  refine ⟨by omega, by omega⟩

theorem TJ.next {f g t : Nat → Int} {j : Nat} (h : TJ f g t j) (rf : Rg f (j + 1)) (rg : Rg g 4) (lg : val g 4 < RI) : TJ f g (nt t g (f j)) (j + 1) := by
  obtain ⟨rt, Q, h1, h2, h3⟩ := h
  have hk := rf j (by omega)
  have e := rd_inv h1 (nt_val t g (f j))
  have q := rd_q h2 h3 (fm_bd (tm t g (f j))).1 (fm_bd (tm t g (f j))).2 (pw_pos j)
  have l : val (nt t g (f j)) 4 < 2 * RI := mont_lt (p := pw (j + 1)) e (val_bd rf) ⟨(val_bd rg).1, lg⟩ q
  refine ⟨fun i hi => ?_, _, e, q⟩
  rcases (show i = 0 ∨ i = 1 ∨ i = 2 ∨ i = 3 by omega) with rfl | rfl | rfl | rfl
  · exact tm_rg (tm t g (f j)) rL (fm (tm t g (f j))) 4 1 (by omega)
  · exact tm_rg (tm t g (f j)) rL (fm (tm t g (f j))) 4 2 (by omega)
  · exact tm_rg (tm t g (f j)) rL (fm (tm t g (f j))) 4 3 (by omega)
  · exact nt_top rt rg hk l

theorem TJ.zero (f g : Nat → Int) : TJ f g Z 0 := ⟨Z_rg 4, 0, by rw [val_Z]; simp [val], Int.le_refl _, by simp [pw]⟩

end Go.Proofs.Ytccidmogamnihaa

/- What lift, drop, bitAt, Mul, Pow, Inv and Root of package fr answer. -/
namespace Go.Proofs.Ytccidmogamnihaa
open Go.RowKit
attribute [local go_sem ↓] Go.wp_at_zero Go.wp_at_succ
set_option linter.unusedVariables false

def Gl (w : World) : Prop := At w (some ⟨0, 0, none⟩) 4 gL ∧ At w (some ⟨1, 0, none⟩) 4 cL
theorem Gl.stay {w x : World} (h : Gl w) (b : Below w.heap.size w x) : Gl x := ⟨h.1.below b, h.2.below b⟩

end Go.Proofs.Ytccidmogamnihaa

/- What Inv and Root of package fr answer. -/
namespace Go.Proofs.Ytccidmogamnihaa
open Go.RowKit
attribute [local go_sem ↓] Go.wp_at_zero Go.wp_at_succ
set_option linter.unusedVariables false

end Go.Proofs.Ytccidmogamnihaa

/- What scalar, Put, Take and Wide of package fr answer. -/
namespace Go.Proofs.Ytccidmogamnihaa
open Go.RowKit
attribute [local go_sem ↓] Go.wp_at_zero Go.wp_at_succ
set_option linter.unusedVariables false

theorem nm_le4 {h : Nat → Int} {n : Nat} (rh : Rg h n) (m : Nm h n) (l : val h n < pw 4) : n ≤ 4 := by
  rcases Nat.lt_or_ge 4 n with h4 | h4
  · exfalso
    obtain ⟨k, rfl⟩ : ∃ k, n = k + 1 := ⟨n - 1, by omega⟩
    have b := nm_lb rh m
    have p := pw_mono (show 4 ≤ k by omega)
    omega
  · exact h4

theorem scalar_any (p : Option Addr) (n cap : Nat) (f : Nat → Int) (w : World) (hn : n ≤ 4) (ha : At w p n f) (rf : Rg f n) : Calls Try.prog 32 #[.slice p n cap] w fun e w' => ∃ h : Nat → Int, e = .returned (.agg #[.int .u64 (h 0), .int .u64 (h 1), .int .u64 (h 2), .int .u64 (h 3)]) ∧ Rg h 4 ∧ val h 4 = val f n ∧ Below w.heap.size w w' := by
  obtain ⟨m1, m0⟩ := mut_two w 34 34
  have hB := below_two w (.cells #[.int .u64 0, .int .u64 0, .int .u64 0, .int .u64 0] 34) (.cells #[.int .u64 0, .int .u64 0, .int .u64 0, .int .u64 0] 34)
  have ha' := ha.below hB
  have RL : Hid _ := lm_rg rf 4
  have VL : Hid _ := val_lm f n 4 hn
  clear rf
  go_enter Try.func32, Try.ntmps32
  go_wp2_with (refine wpList_copy_lim .u64 (by rfl) (.tmp 4) (.tmp 5) 51 51 (by rfl) 32 Try.underlying51 size64 (w.heap.size + 1) 0 4 4 p n cap Z f (by rfl) (by rfl) m1 ha' hn ?_; intro w4 hu4 hm4; have k4 : Mut w4 (w.heap.size + 1) 0 4 (lm f n) := hm4; obtain ⟨x0, x1, x2, x3⟩ := k4.cells4; obtain ⟨y0, y1, y2, y3⟩ := (m0.upd hu4 (by omega)).cells4; obtain ⟨z0, z1, z2, z3⟩ := (m0.upd hu4 (by omega)).free4; have HU : Hid _ := hu4; have HB : Hid _ := hB; clear hm4 k4 m1 m0 hu4 hB ha ha')
  refine bodyPost_ret (v := .agg #[.int .u64 ((lm f n) 0), .int .u64 ((lm f n) 1), .int .u64 ((lm f n) 2), .int .u64 ((lm f n) 3)]) (by simp [results, Try.results32, go_sem, y0, y1, y2, y3]) rfl ⟨lm f n, rfl, RL.out, VL.out, ?_⟩
  exact ((((Below.trans HB.out (Upd.below HU.out (by omega))).setCell (Nat.le_refl _) _).setCell (Nat.le_refl _) _).setCell (Nat.le_refl _) _).setCell (Nat.le_refl _) _

theorem frWide_any (p : Option Addr) (n cap : Nat) (g : Nat → Int) (w : World) (hn : n ≤ cap) (hc : AtK .u8 w p n g) (hg : ∀ j, j < n → 0 ≤ g j ∧ g j < 256) (hN : n ≤ 192) : Calls Try.prog 18 #[.slice p n cap] w fun e w' => ∃ h : Nat → Int, e = .returned (.agg #[.int .u64 (h 0), .int .u64 (h 1), .int .u64 (h 2), .int .u64 (h 3)]) ∧ Rg h 4 ∧ val h 4 = bv g n % RI ∧ Below w.heap.size w w' := by
  have hR : Mut (w.alloc (.cells #[.int .u64 0, .int .u64 0, .int .u64 0, .int .u64 0] 34)) w.heap.size 0 4 Z := mut_noughts w _
  have b1 := below_one w (.cells #[.int .u64 0, .int .u64 0, .int .u64 0, .int .u64 0] 34)
  have z1 := World.size_alloc w (.cells #[.int .u64 0, .int .u64 0, .int .u64 0, .int .u64 0] 34)
  have hc1 := hc.below b1
  have pb := pl_bv g n
  go_enter Try.func18, Try.ntmps18
  go_wp2_with fail
  generalize w.alloc (.cells #[.int .u64 0, .int .u64 0, .int .u64 0, .int .u64 0] 34) = W at *
  refine Calls.mono (take_any p n cap g W hn hc1 hg (by omega)) ?_
  rintro e w2 ⟨v, rfl, b2, b, off, n2, c2, h, rfl, -, -, l1, l2, a2, r2, nm, v2⟩
  rw [pb] at v2
  clear pb hc hc1 hg
  have HL : Hid (w.heap.size + 1 ≤ w2.heap.size) := by have := b2.size; show _ ≤ _; omega
  have hR2 := hR.below b2 (by rw [z1]; omega)
  have b3 := Below.up b1 (Nat.le_refl _) b2
  clear hR b1 b2 z1
  go_wp2_with fail
  refine Calls.mono (frR_any w2) ?_
  rintro e w3 ⟨pr, cr, rfl, ar, l3, l4, b4⟩
  have a3 := a2.at.below b4
  have RS : Hid _ := rest_any (some ⟨b, off, none⟩) pr n2 4 c2 cr h rL w3 l1 (by omega) l3 l4 a3 ar r2 rL_rg (by omega) (by omega) (by rw [rL_val]; decide)
  rw [v2, rL_val] at RS
  have hR3 := hR2.below b4 (by have := HL.out; omega)
  have b5 := Below.up b3 (Nat.le_refl _) b4
  have HL3 : Hid (w.heap.size + 1 ≤ w3.heap.size) := by have := b4.size; have := HL.out; show _ ≤ _; omega
  clear a2 a3 ar r2 v2 nm l1 l2 l3 l4 hR2 b3 b4 HL
  go_wp2_with fail
  refine Calls.mono RS.out ?_
  rintro e w4 ⟨v, rfl, b6, b', off', n4, c4, h4, rfl, -, -, q1, q2, a4, r4, nm4, v4⟩
  have l4 := nm_le4 r4 nm4 (by rw [v4]; have := modR_lt (bv g n); have : RI < pw 4 := by decide +kernel
                               omega)
  have S : Hid _ := scalar_any (some ⟨b', off', none⟩) n4 c4 h4 w4 l4 a4.at r4
  rw [v4] at S
  have hR4 := hR3.below b6 (by have := HL3.out; omega)
  have b7 := Below.up b5 (Nat.le_refl _) b6
  have HL4 : Hid (w.heap.size + 1 ≤ w4.heap.size) := by have := b6.size; have := HL3.out; show _ ≤ _; omega
  clear RS hR3 b5 b6 q1 q2 a4 r4 nm4 v4 l4 HL3
  go_wp2_with fail
  refine Calls.mono S.out ?_
  rintro e w5 ⟨k, rfl, rk, vk, b8⟩
  have hR5 := hR4.below b8 (by have := HL4.out; omega)
  obtain ⟨y0, y1, y2, y3⟩ := hR5.cells4
  obtain ⟨z0, z1, z2, z4⟩ := hR5.free4
  have HB : Hid _ := Below.up b7 (Nat.le_refl _) b8
  have RK : Hid _ := rk
  have VK : Hid _ := vk
  clear hR4 hR5 b7 b8 rk vk
  go_wp2
  refine bodyPost_ret (v := .agg #[.int .u64 (k 0), .int .u64 (k 1), .int .u64 (k 2), .int .u64 (k 3)]) (by simp [results, Try.results18, go_sem, y0, y1, y2, y3]) rfl ⟨k, rfl, RK.out, VK.out, ?_⟩
  exact below_set4 HB.out (by omega) _ _ _ _
end Go.Proofs.Ytccidmogamnihaa
