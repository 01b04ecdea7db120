/- What fr.times answers: Montgomery's product. -/
import Derived.Test.YtgdmjngajjoliaaDoorZX
import Derived.Deep.RegionWith
namespace Go.Proofs.YtgdmjngajjoliaaDoor.fpn
open Go.RowKit
attribute [local go_sem ↓] Go.wp_at_zero Go.wp_at_succ
set_option linter.unusedVariables false

theorem idx6 (a b c d p q : Int) : (∀ w : World, (Instr.index 24 (.agg #[.int .u64 a, .int .u64 b, .int .u64 c, .int .u64 d, .int .u64 p, .int .u64 q]) (.int .i64 0)).run Tryd.prog w = .ok (.int .u64 a) w) ∧ (∀ w : World, (Instr.index 24 (.agg #[.int .u64 a, .int .u64 b, .int .u64 c, .int .u64 d, .int .u64 p, .int .u64 q]) (.int .i64 1)).run Tryd.prog w = .ok (.int .u64 b) w) ∧ (∀ w : World, (Instr.index 24 (.agg #[.int .u64 a, .int .u64 b, .int .u64 c, .int .u64 d, .int .u64 p, .int .u64 q]) (.int .i64 2)).run Tryd.prog w = .ok (.int .u64 c) w) ∧ (∀ w : World, (Instr.index 24 (.agg #[.int .u64 a, .int .u64 b, .int .u64 c, .int .u64 d, .int .u64 p, .int .u64 q]) (.int .i64 3)).run Tryd.prog w = .ok (.int .u64 d) w) ∧ (∀ w : World, (Instr.index 24 (.agg #[.int .u64 a, .int .u64 b, .int .u64 c, .int .u64 d, .int .u64 p, .int .u64 q]) (.int .i64 4)).run Tryd.prog w = .ok (.int .u64 p) w) ∧ (∀ w : World, (Instr.index 24 (.agg #[.int .u64 a, .int .u64 b, .int .u64 c, .int .u64 d, .int .u64 p, .int .u64 q]) (.int .i64 5)).run Tryd.prog w = .ok (.int .u64 q) w) := by
  have u := Tryd.underlying24
  have a3 := Tryd.isAgg22
  have z3 := Tryd.sizeOf22
  refine ⟨fun w => ?_, fun w => ?_, fun w => ?_, fun w => ?_, fun w => ?_, fun w => ?_⟩ <;> simp [Instr.index, run_underlying u, asIntOf, go_sem]

/-- The multiple of R that is added. -/
def fm (s : Nat → Int) : Int := s 0 * 9940570264628428797 % B64
theorem fm_bd (s : Nat → Int) : 0 ≤ fm s ∧ fm s < B64 := ⟨Int.emod_nonneg _ (by rw [B64_eq]; decide), Int.emod_lt_of_pos _ B64_pos⟩
theorem fm_zero (s : Nat → Int) : tm s rL (fm s) 0 = 0 := by
  unfold tm fm
  rw [show rL 0 = 13402431016077863595 from rfl, show ct s rL (s 0 * 9940570264628428797 % B64) 0 = 0 from rfl, Int.add_zero, Int.add_emod, mul_mod_r, ← Int.add_emod]
  rw [show (13402431016077863595 : Int) * (s 0 * 9940570264628428797) + s 0 = B64 * (s 0 * 7222293901829252101) by rw [B64_eq]; omega]
  exact Int.mul_emod_right _ _

/-- One round. -/
def nt (t g : Nat → Int) (k : Int) : Nat → Int
  | 0 => tm (tm t g k) rL (fm (tm t g k)) 1
  | 1 => tm (tm t g k) rL (fm (tm t g k)) 2
  | 2 => tm (tm t g k) rL (fm (tm t g k)) 3
  | 3 => tm (tm t g k) rL (fm (tm t g k)) 4
  | 4 => tm (tm t g k) rL (fm (tm t g k)) 5
  | _ => ct t g k 6 + ct (tm t g k) rL (fm (tm t g k)) 6

theorem nt_val (t g : Nat → Int) (k : Int) : val (nt t g k) 6 * B64 = val t 6 + val g 6 * k + RI * fm (tm t g k) := by
  have e1 := val_tm t g k 6
  have e2 := val_tm (tm t g k) rL (fm (tm t g k)) 6
  have z := fm_zero (tm t g k)
  rw [rL_val] at e2
  simp only [val, pw, nt, z] at e1 e2 ⊢
  generalize fm (tm t g k) = m at *
  generalize tm (tm t g k) rL m 1 = a1 at *
  generalize tm (tm t g k) rL m 2 = a2 at *
  generalize tm (tm t g k) rL m 3 = a3 at *
  generalize tm (tm t g k) rL m 4 = a4 at *
  generalize tm (tm t g k) rL m 5 = a5 at *
  generalize ct (tm t g k) rL m 6 = c2 at *
  generalize ct t g k 6 = c1 at *
  generalize tm t g k 0 = s0 at *
  generalize tm t g k 1 = s1 at *
  generalize tm t g k 2 = s2 at *
  generalize tm t g k 3 = s3 at *
  generalize tm t g k 4 = s4 at *
  generalize tm t g k 5 = s5 at *
  grind

theorem mulAdd_ct (t g : Nat → Int) (k : Int) (i : Nat) (w : World) (hk : 0 ≤ k ∧ k < B64) (rt : Rg t (i + 1)) (rg : Rg g (i + 1)) :
    Calls Tryd.prog 66 #[.int .u64 k, .int .u64 (g i), .int .u64 (t i), .int .u64 (ct t g k i)] w fun e w' => e = .returned (.tuple #[.int .u64 (ct t g k (i + 1)), .int .u64 (tm t g k i)]) ∧ w' = w := by
  have := mulAdd_any k (g i) (t i) (ct t g k i) w hk (rg i (by omega)) (rt i (by omega)) (ct_bd (rt.mono (by omega)) (rg.mono (by omega)) hk)
  rw [Int.mul_comm k] at this
  exact this

/-- What the rounds keep. -/
def TJ (f g t : Nat → Int) (j : Nat) : Prop := Rg t 6 ∧ ∃ Q : Int, val t 6 * pw j = val f j * val g 6 + Q * RI ∧ 0 ≤ Q ∧ Q < pw j

theorem TJ.lt {f g t : Nat → Int} {j : Nat} (h : TJ f g t j) (rf : Rg f j) (rg : Rg g 6) (lg : val g 6 < RI) : val t 6 < 2 * RI := by
  obtain ⟨-, Q, h1, h2, h3⟩ := h
  exact mont_lt h1 (val_bd rf) ⟨(val_bd rg).1, lg⟩ ⟨h2, h3⟩

theorem nt_top {t g : Nat → Int} {k : Int} (rt : Rg t 6) (rg : Rg g 6) (hk : 0 ≤ k ∧ k < B64) (h : val (nt t g k) 6 < 2 * RI) : 0 ≤ nt t g k 5 ∧ nt t g k 5 < B64 := by
  have c1 := (ct_bd rt rg hk).1
  have c2 := (ct_bd (tm_rg t g k 6) rL_rg (fm_bd (tm t g k))).1
  have a0 := (tm_rg (tm t g k) rL (fm (tm t g k)) 6 1 (by omega)).1
  have a1 := (tm_rg (tm t g k) rL (fm (tm t g k)) 6 2 (by omega)).1
  have a2 := (tm_rg (tm t g k) rL (fm (tm t g k)) 6 3 (by omega)).1
  have a3 := (tm_rg (tm t g k) rL (fm (tm t g k)) 6 4 (by omega)).1
  have a4 := (tm_rg (tm t g k) rL (fm (tm t g k)) 6 5 (by omega)).1
  simp only [val, pw] at h
  have e0 : nt t g k 0 = tm (tm t g k) rL (fm (tm t g k)) 1 := rfl
  have e1 : nt t g k 1 = tm (tm t g k) rL (fm (tm t g k)) 2 := rfl
  have e2 : nt t g k 2 = tm (tm t g k) rL (fm (tm t g k)) 3 := rfl
  have e3 : nt t g k 3 = tm (tm t g k) rL (fm (tm t g k)) 4 := rfl
  have e4 : nt t g k 4 = tm (tm t g k) rL (fm (tm t g k)) 5 := rfl
  have e5 : nt t g k 5 = ct t g k 6 + ct (tm t g k) rL (fm (tm t g k)) 6 := rfl
  rw [← e0] at a0
  rw [← e1] at a1
  rw [← e2] at a2
  rw [← e3] at a3
  rw [← e4] at a4
  generalize nt t g k 0 = x0 at *
  generalize nt t g k 1 = x1 at *
  generalize nt t g k 2 = x2 at *
  generalize nt t g k 3 = x3 at *
  generalize nt t g k 4 = x4 at *
  generalize nt t g k 5 = x5 at *
  unfold RI at h
  rw [B64_eq] at *
  refine ⟨by omega, by omega⟩

theorem TJ.next {f g t : Nat → Int} {j : Nat} (h : TJ f g t j) (rf : Rg f (j + 1)) (rg : Rg g 6) (lg : val g 6 < RI) : TJ f g (nt t g (f j)) (j + 1) := by
  obtain ⟨rt, Q, h1, h2, h3⟩ := h
  have hk := rf j (by omega)
  have e := rd_inv h1 (nt_val t g (f j))
  have q := rd_q h2 h3 (fm_bd (tm t g (f j))).1 (fm_bd (tm t g (f j))).2 (pw_pos j)
  have l : val (nt t g (f j)) 6 < 2 * RI := mont_lt (p := pw (j + 1)) e (val_bd rf) ⟨(val_bd rg).1, lg⟩ q
  refine ⟨fun i hi => ?_, _, e, q⟩
  rcases (show i = 0 ∨ i = 1 ∨ i = 2 ∨ i = 3 ∨ i = 4 ∨ i = 5 by omega) with rfl | rfl | rfl | rfl | rfl | rfl
  · exact tm_rg (tm t g (f j)) rL (fm (tm t g (f j))) 6 1 (by omega)
  · exact tm_rg (tm t g (f j)) rL (fm (tm t g (f j))) 6 2 (by omega)
  · exact tm_rg (tm t g (f j)) rL (fm (tm t g (f j))) 6 3 (by omega)
  · exact tm_rg (tm t g (f j)) rL (fm (tm t g (f j))) 6 4 (by omega)
  · exact tm_rg (tm t g (f j)) rL (fm (tm t g (f j))) 6 5 (by omega)
  · exact nt_top rt rg hk l

theorem TJ.zero (f g : Nat → Int) : TJ f g Z 0 := ⟨Z_rg 6, 0, by rw [val_Z]; simp [val], Int.le_refl _, by simp [pw]⟩

/-- The carries' sum does not wrap. -/
theorem nt_wrap {f g t : Nat → Int} {j : Nat} (h : TJ f g t j) (rf : Rg f (j + 1)) (rg : Rg g 6) (lg : val g 6 < RI) : IntKind.u64.wrap (ct t g (f j) 6 + ct (tm t g (f j)) rL (fm (tm t g (f j))) 6) = nt t g (f j) 5 := by
  have := (h.next rf rg lg).1 5 (by omega)
  rw [IntKind.wrap_u64]
  rw [B64_eq] at this
  exact Int.emod_eq_of_lt this.1 this.2

set_option maxRecDepth 8000 in
set_option maxHeartbeats 4000000 in
theorem times_any (f g : Nat → Int) (w : World) (rf : Rg f 6) (rg : Rg g 6) (lg : val g 6 < RI) :
    Calls Tryd.prog 47 #[.agg #[.int .u64 (f 0), .int .u64 (f 1), .int .u64 (f 2), .int .u64 (f 3), .int .u64 (f 4), .int .u64 (f 5)], .agg #[.int .u64 (g 0), .int .u64 (g 1), .int .u64 (g 2), .int .u64 (g 3), .int .u64 (g 4), .int .u64 (g 5)]] w fun e w' => ∃ h : Nat → Int, e = .returned (.agg #[.int .u64 (h 0), .int .u64 (h 1), .int .u64 (h 2), .int .u64 (h 3), .int .u64 (h 4), .int .u64 (h 5)]) ∧ Rg h 6 ∧ val h 6 < RI ∧ val h 6 * pw 6 % RI = val f 6 * val g 6 % RI ∧ Below w.heap.size w w' := by
  obtain ⟨B1, z1, hF, hG, hR⟩ := three_all w f g 24
  have hG4 := at6 hG
  unfold three at B1 z1 hF hG hR hG4
  go_enter Tryd.func47, Tryd.ntmps47
  go_wp2
  generalize ((w.alloc (.cells #[.int .u64 (f 0), .int .u64 (f 1), .int .u64 (f 2), .int .u64 (f 3), .int .u64 (f 4), .int .u64 (f 5)] 24)).alloc (.cells #[.int .u64 (g 0), .int .u64 (g 1), .int .u64 (g 2), .int .u64 (g 3), .int .u64 (g 4), .int .u64 (g 5)] 24)).alloc (.cells #[.int .u64 0, .int .u64 0, .int .u64 0, .int .u64 0, .int .u64 0, .int .u64 0] 24) = W at *
  have HB : Hid _ := B1
  have HR : Hid _ := hR
  have Z1 : Hid _ := z1
  have RF : Hid _ := rf
  have RG : Hid _ := rg
  have LG : Hid _ := lg
  obtain ⟨g0, g1, g2, g3, g4, g5⟩ := hG4
  clear hF hG hR B1 z1 rf rg lg
  go_loopw [5, 6, 7, 8, 9, 10, 24] (fun a b c d p q i wr => ∃ (j : Nat) (t : Nat → Int), j ≤ 6 ∧ a = .int .u64 (t 0) ∧ b = .int .u64 (t 1) ∧ c = .int .u64 (t 2) ∧ d = .int .u64 (t 3) ∧ p = .int .u64 (t 4) ∧ q = .int .u64 (t 5) ∧ i = .int .i64 j ∧ TJ f g t j ∧ wr = W) (fun _ _ _ _ _ _ i _ => 6 - (intOf i).toNat)
  case atStart => exact ⟨0, Z, by omega, rfl, rfl, rfl, rfl, rfl, rfl, rfl, TJ.zero f g, rfl⟩
  case round =>
    obtain ⟨j, t, hj, rfl, rfl, rfl, rfl, rfl, rfl, rfl, ht, rfl⟩ := hrel
    by_cases hlt : j < 6
    · have hk := RF.out j hlt
      have rt := ht.1
      have rgg := RG.out
      have M0 : ∀ w, Calls Tryd.prog 66 #[.int .u64 (f j), .int .u64 (g 0), .int .u64 (t 0), .int .u64 0] w fun e w' => e = .returned (.tuple #[.int .u64 (ct t g (f j) 1), .int .u64 (tm t g (f j) 0)]) ∧ w' = w := fun w => mulAdd_ct t g (f j) 0 w hk (Rg.mono rt (by omega)) (Rg.mono rgg (by omega))
      have M1 : ∀ w, Calls Tryd.prog 66 #[.int .u64 (f j), .int .u64 (g 1), .int .u64 (t 1), .int .u64 (ct t g (f j) 1)] w fun e w' => e = .returned (.tuple #[.int .u64 (ct t g (f j) 2), .int .u64 (tm t g (f j) 1)]) ∧ w' = w := fun w => mulAdd_ct t g (f j) 1 w hk (Rg.mono rt (by omega)) (Rg.mono rgg (by omega))
      have M2 : ∀ w, Calls Tryd.prog 66 #[.int .u64 (f j), .int .u64 (g 2), .int .u64 (t 2), .int .u64 (ct t g (f j) 2)] w fun e w' => e = .returned (.tuple #[.int .u64 (ct t g (f j) 3), .int .u64 (tm t g (f j) 2)]) ∧ w' = w := fun w => mulAdd_ct t g (f j) 2 w hk (Rg.mono rt (by omega)) (Rg.mono rgg (by omega))
      have M3 : ∀ w, Calls Tryd.prog 66 #[.int .u64 (f j), .int .u64 (g 3), .int .u64 (t 3), .int .u64 (ct t g (f j) 3)] w fun e w' => e = .returned (.tuple #[.int .u64 (ct t g (f j) 4), .int .u64 (tm t g (f j) 3)]) ∧ w' = w := fun w => mulAdd_ct t g (f j) 3 w hk (Rg.mono rt (by omega)) (Rg.mono rgg (by omega))
      have M4 : ∀ w, Calls Tryd.prog 66 #[.int .u64 (f j), .int .u64 (g 4), .int .u64 (t 4), .int .u64 (ct t g (f j) 4)] w fun e w' => e = .returned (.tuple #[.int .u64 (ct t g (f j) 5), .int .u64 (tm t g (f j) 4)]) ∧ w' = w := fun w => mulAdd_ct t g (f j) 4 w hk (Rg.mono rt (by omega)) (Rg.mono rgg (by omega))
      have M5 : ∀ w, Calls Tryd.prog 66 #[.int .u64 (f j), .int .u64 (g 5), .int .u64 (t 5), .int .u64 (ct t g (f j) 5)] w fun e w' => e = .returned (.tuple #[.int .u64 (ct t g (f j) 6), .int .u64 (tm t g (f j) 5)]) ∧ w' = w := fun w => mulAdd_ct t g (f j) 5 w hk (Rg.mono rt (by omega)) (Rg.mono rgg (by omega))
      have N0 : ∀ w, Calls Tryd.prog 66 #[.int .u64 (fm (tm t g (f j))), .int .u64 13402431016077863595, .int .u64 (tm t g (f j) 0), .int .u64 0] w fun e w' => e = .returned (.tuple #[.int .u64 (ct (tm t g (f j)) rL (fm (tm t g (f j))) 1), .int .u64 (tm (tm t g (f j)) rL (fm (tm t g (f j))) 0)]) ∧ w' = w := fun w => mulAdd_ct (tm t g (f j)) rL (fm (tm t g (f j))) 0 w (fm_bd _) (tm_rg _ _ _ _) (Rg.mono rL_rg (by omega))
      have N1 : ∀ w, Calls Tryd.prog 66 #[.int .u64 (fm (tm t g (f j))), .int .u64 2210141511517208575, .int .u64 (tm t g (f j) 1), .int .u64 (ct (tm t g (f j)) rL (fm (tm t g (f j))) 1)] w fun e w' => e = .returned (.tuple #[.int .u64 (ct (tm t g (f j)) rL (fm (tm t g (f j))) 2), .int .u64 (tm (tm t g (f j)) rL (fm (tm t g (f j))) 1)]) ∧ w' = w := fun w => mulAdd_ct (tm t g (f j)) rL (fm (tm t g (f j))) 1 w (fm_bd _) (tm_rg _ _ _ _) (Rg.mono rL_rg (by omega))
      have N2 : ∀ w, Calls Tryd.prog 66 #[.int .u64 (fm (tm t g (f j))), .int .u64 7435674573564081700, .int .u64 (tm t g (f j) 2), .int .u64 (ct (tm t g (f j)) rL (fm (tm t g (f j))) 2)] w fun e w' => e = .returned (.tuple #[.int .u64 (ct (tm t g (f j)) rL (fm (tm t g (f j))) 3), .int .u64 (tm (tm t g (f j)) rL (fm (tm t g (f j))) 2)]) ∧ w' = w := fun w => mulAdd_ct (tm t g (f j)) rL (fm (tm t g (f j))) 2 w (fm_bd _) (tm_rg _ _ _ _) (Rg.mono rL_rg (by omega))
      have N3 : ∀ w, Calls Tryd.prog 66 #[.int .u64 (fm (tm t g (f j))), .int .u64 7239337960414712511, .int .u64 (tm t g (f j) 3), .int .u64 (ct (tm t g (f j)) rL (fm (tm t g (f j))) 3)] w fun e w' => e = .returned (.tuple #[.int .u64 (ct (tm t g (f j)) rL (fm (tm t g (f j))) 4), .int .u64 (tm (tm t g (f j)) rL (fm (tm t g (f j))) 3)]) ∧ w' = w := fun w => mulAdd_ct (tm t g (f j)) rL (fm (tm t g (f j))) 3 w (fm_bd _) (tm_rg _ _ _ _) (Rg.mono rL_rg (by omega))
      have N4 : ∀ w, Calls Tryd.prog 66 #[.int .u64 (fm (tm t g (f j))), .int .u64 5412103778470702295, .int .u64 (tm t g (f j) 4), .int .u64 (ct (tm t g (f j)) rL (fm (tm t g (f j))) 4)] w fun e w' => e = .returned (.tuple #[.int .u64 (ct (tm t g (f j)) rL (fm (tm t g (f j))) 5), .int .u64 (tm (tm t g (f j)) rL (fm (tm t g (f j))) 4)]) ∧ w' = w := fun w => mulAdd_ct (tm t g (f j)) rL (fm (tm t g (f j))) 4 w (fm_bd _) (tm_rg _ _ _ _) (Rg.mono rL_rg (by omega))
      have N5 : ∀ w, Calls Tryd.prog 66 #[.int .u64 (fm (tm t g (f j))), .int .u64 1873798617647539866, .int .u64 (tm t g (f j) 5), .int .u64 (ct (tm t g (f j)) rL (fm (tm t g (f j))) 5)] w fun e w' => e = .returned (.tuple #[.int .u64 (ct (tm t g (f j)) rL (fm (tm t g (f j))) 6), .int .u64 (tm (tm t g (f j)) rL (fm (tm t g (f j))) 5)]) ∧ w' = w := fun w => mulAdd_ct (tm t g (f j)) rL (fm (tm t g (f j))) 5 w (fm_bd _) (tm_rg _ _ _ _) (Rg.mono rL_rg (by omega))
      have hn := ht.next (Rg.mono RF.out (show j + 1 ≤ 6 by omega)) rgg LG.out
      have nw := nt_wrap ht (Rg.mono RF.out (show j + 1 ≤ 6 by omega)) rgg LG.out
      have hm : IntKind.u64.wrap (tm t g (f j) 0 * 9940570264628428797) = fm (tm t g (f j)) := by rw [IntKind.wrap_u64]; unfold fm; rw [B64_eq]
      have n0 : tm (tm t g (f j)) rL (fm (tm t g (f j))) 1 = nt t g (f j) 0 := rfl
      have n1 : tm (tm t g (f j)) rL (fm (tm t g (f j))) 2 = nt t g (f j) 1 := rfl
      have n2 : tm (tm t g (f j)) rL (fm (tm t g (f j))) 3 = nt t g (f j) 2 := rfl
      have n3 : tm (tm t g (f j)) rL (fm (tm t g (f j))) 4 = nt t g (f j) 3 := rfl
      have n4 : tm (tm t g (f j)) rL (fm (tm t g (f j))) 5 = nt t g (f j) 4 := rfl
      generalize nt t g (f j) = T at *
      generalize ct t g (f j) = c at *
      generalize tm t g (f j) = s at *
      generalize fm s = m at *
      generalize ct s rL m = d at *
      generalize tm s rL m = u at *
      rw [n0] at N1
      rw [n1] at N2
      rw [n2] at N3
      rw [n3] at N4
      rw [n4] at N5
      have K0 : Hid _ := M0
      have K1 : Hid _ := M1
      have K2 : Hid _ := M2
      have K3 : Hid _ := M3
      have K4 : Hid _ := M4
      have K5 : Hid _ := M5
      have L0 : Hid _ := N0
      have L1 : Hid _ := N1
      have L2 : Hid _ := N2
      have L3 : Hid _ := N3
      have L4 : Hid _ := N4
      have L5 : Hid _ := N5
      have HM : Hid _ := hm
      have HW : Hid _ := nw
      have HT : Hid _ := hn
      clear M0 N0 M1 N1 M2 N2 M3 N3 M4 N4 M5 N5 hm nw hn n0 n1 n2 n3 n4 hk rt rgg ht
      obtain ⟨i0, i1, i2, i3, i4, i5⟩ := idx6 (f 0) (f 1) (f 2) (f 3) (f 4) (f 5)
      rcases (show j = 0 ∨ j = 1 ∨ j = 2 ∨ j = 3 ∨ j = 4 ∨ j = 5 by omega) with rfl | rfl | rfl | rfl | rfl | rfl
      all_goals
        clear hj hlt
        go_wp2_with (first
          | (rw [HM.out]; go_at_call_of 66 (Value.int .u64 (s 0)); refine Calls.mono (L0.out _) ?_; rintro e w' ⟨rfl, rfl⟩)
          | (go_at_call_of 66 (Value.int .u64 (t 0)); refine Calls.mono (K0.out _) ?_; rintro e w' ⟨rfl, rfl⟩)
          | (go_at_call_of 66 (Value.int .u64 (t 1)); refine Calls.mono (K1.out _) ?_; rintro e w' ⟨rfl, rfl⟩)
          | (go_at_call_of 66 (Value.int .u64 (t 2)); refine Calls.mono (K2.out _) ?_; rintro e w' ⟨rfl, rfl⟩)
          | (go_at_call_of 66 (Value.int .u64 (t 3)); refine Calls.mono (K3.out _) ?_; rintro e w' ⟨rfl, rfl⟩)
          | (go_at_call_of 66 (Value.int .u64 (t 4)); refine Calls.mono (K4.out _) ?_; rintro e w' ⟨rfl, rfl⟩)
          | (go_at_call_of 66 (Value.int .u64 (t 5)); refine Calls.mono (K5.out _) ?_; rintro e w' ⟨rfl, rfl⟩)
          | (go_at_call_of 66 (Value.int .u64 (s 1)); refine Calls.mono (L1.out _) ?_; rintro e w' ⟨rfl, rfl⟩)
          | (go_at_call_of 66 (Value.int .u64 (s 2)); refine Calls.mono (L2.out _) ?_; rintro e w' ⟨rfl, rfl⟩)
          | (go_at_call_of 66 (Value.int .u64 (s 3)); refine Calls.mono (L3.out _) ?_; rintro e w' ⟨rfl, rfl⟩)
          | (go_at_call_of 66 (Value.int .u64 (s 4)); refine Calls.mono (L4.out _) ?_; rintro e w' ⟨rfl, rfl⟩)
          | (go_at_call_of 66 (Value.int .u64 (s 5)); refine Calls.mono (L5.out _) ?_; rintro e w' ⟨rfl, rfl⟩))
        rw [HW.out]
        go_roundw
        case rel => exact ⟨_, T, Nat.succ_le_of_lt (by decide), rfl, rfl, rfl, rfl, rfl, rfl, by go_num, HT.out, by first | trivial | rfl⟩
        case measure => simp [intOf]
    · have e : j = 6 := by omega
      subst e
      have K : Hid _ := fun w => bring_any t w ht.1 (ht.lt RF.out RG.out LG.out)
      obtain ⟨rt, Q, q1, -, -⟩ := ht
      have V : Hid (∀ x, x = val t 6 % RI → x < RI ∧ x * pw 6 % RI = val f 6 * val g 6 % RI) := fun x hx => by
        subst hx
        exact ⟨modR_lt _, by rw [mul_mod_l]; exact mont_mod q1⟩
      clear q1 rt
      go_wp2_with fail
      refine Calls.mono (K.out _) ?_
      rintro e w2 ⟨h, rfl, r2, v2, b2⟩
      obtain ⟨y0, y1, y2, y3, y4, y5⟩ := (MutK.below HR.out b2 (by rw [Z1.out]; omega)).cells6
      obtain ⟨x0, x1, x2, x3, x4, x5⟩ := (MutK.below HR.out b2 (by rw [Z1.out]; omega)).free6
      have HB2 : Hid _ := Below.up HB.out (Nat.le_refl _) b2
      have R2 : Hid _ := r2
      have V2 : Hid _ := V.out _ v2
      clear b2 r2 v2
      go_wp2
      refine bodyPost_ret (v := .agg #[.int .u64 (h 0), .int .u64 (h 1), .int .u64 (h 2), .int .u64 (h 3), .int .u64 (h 4), .int .u64 (h 5)]) (by simp [results, Tryd.results47, go_sem, y0, y1, y2, y3, y4, y5]) rfl ⟨h, rfl, R2.out, (V2.out).1, (V2.out).2, ?_⟩
      exact below_set6 HB2.out (by omega) _ _ _ _ _ _
end Go.Proofs.YtgdmjngajjoliaaDoor.fpn
