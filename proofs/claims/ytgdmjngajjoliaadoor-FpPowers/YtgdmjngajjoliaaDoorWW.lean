/- What the document's mont answers: Montgomery's product. -/
import Derived.Test.YtgdmjngajjoliaaDoorWU
import Derived.Test.YtgdmjngajjoliaaDoorWV
namespace Go.Proofs.YtgdmjngajjoliaaDoor
open Go.RowKit
attribute [local go_sem ↓] Go.wp_at_zero Go.wp_at_succ
set_option linter.unusedVariables false

set_option maxRecDepth 20000 in
set_option maxHeartbeats 4000000 in
theorem mont_any (pa pb pm : Option Addr) (n ca cb cm : Nat) (f g m : Nat → Int) (w : World) (hn : n ≤ 900) (h0 : 0 < n) (ha : At w pa n f) (hb : At w pb n g) (hm : At w pm n m) (rf : Rg f n) (rg : Rg g n) (rm : Rg m n) (lg : val g n < val m n) (hinv : nwt (m 0) 6 * m 0 % B64 = 1) :
    Calls Tryd.prog 67 #[.slice pa n ca, .slice pb n cb, .slice pm n cm] w fun e w' => ∃ v r, e = .returned v ∧ Fix w w' v n r ∧ r < val m n ∧ r * pw n % val m n = val f n * val g n % val m n := by
  obtain ⟨i0, hi0, hz0, hz1, hz2⟩ := info_parts info64
  have q8 : i0.bytes ≤ 8 := by omega
  clear hz2
  have LG : Hid _ := lg
  have HV : Hid _ := hinv
  clear lg hinv
  have m0 : 0 ≤ m 0 ∧ m 0 < B64 := rm 0 h0
  obtain ⟨b3, o3, epm, d3⟩ := hm h0
  have c0 : w.cell? ⟨b3, o3, none⟩ = some (.int .u64 (m 0)) := d3 0 h0
  have EPM : Hid _ := epm
  rw [epm]
  clear d3 epm
  go_enter Tryd.func67, Tryd.ntmps67
  go_wp2
  go_loopw [8, 9] (fun v i wr => ∃ j q : Nat, j ≤ 6 ∧ i = .int .i64 j ∧ v = .int .u64 (nwt (m 0) j) ∧ wr = w.drewN q) (fun _ i _ => 6 - (intOf i).toNat)
  case atStart => exact ⟨0, 0, Nat.zero_le _, rfl, rfl, rfl⟩
  case round =>
    obtain ⟨j, q, hj, rfl, rfl, hq⟩ := hrel
    have cr : wr.cell? ⟨b3, o3, none⟩ = some (.int .u64 (m 0)) := by rw [hq]; exact c0
    have HQ : Hid _ := hq
    clear hq
    by_cases hlt : j < 6
    · have EN : Hid (IntKind.u64.wrap (nwt (m 0) j * IntKind.u64.wrap (2 - IntKind.u64.wrap (m 0 * nwt (m 0) j))) = nwt (m 0) (j + 1)) := by
        show _ = _
        simp only [IntKind.wrap_u64]
        rfl
      clear ha hb hm
      generalize nwt (m 0) j = x at *
      go_wp2
      rw [EN.out]
      go_roundw
      case rel => exact ⟨j + 1, q, by omega, by go_num, rfl, HQ.out⟩
      case measure => simp [intOf]; omega
    · have e : j = 6 := by omega
      subst e
      have hB0 : Below w.heap.size w wr := by rw [HQ.out]; exact below_draws (Below.refl _ _) q
      have hsz0 : wr.heap.size = w.heap.size := by rw [HQ.out]; rfl
      have haR := ha.below hB0
      have hbR := hb.below hB0
      have hmR := hm.below hB0
      have EI : Hid (IntKind.u64.wrap (-nwt (m 0) 6) = -nwt (m 0) 6 % B64) := by show _ = _; rw [IntKind.wrap_u64, B64_eq]
      have VI : ∀ t0 : Int, Hid ((m 0 * (t0 * (-nwt (m 0) 6 % B64) % B64) + t0) % B64 = 0) := fun t0 => q_zero HV.out
      rw [← hsz0] at hB0
      have HB0 : Hid _ := hB0
      have HS0 : Hid _ := hsz0
      clear ha hb hm hB0 hsz0 c0 HQ HV
      have II : 0 ≤ -nwt (m 0) 6 % B64 ∧ -nwt (m 0) 6 % B64 < B64 := ⟨Int.emod_nonneg _ (by rw [B64_eq]; decide), Int.emod_lt_of_pos _ B64_pos⟩
      generalize nwt (m 0) 6 = x at *
      go_wp2_with (at_make; refine wpList_make_lim _ .u64 rfl _ _ 30 22 rfl Tryd.underlying30 i0 hi0 hz0 hz1 q8 .i64 .i64 _ _ (n + 2) rfl rfl (by omega) (by omega) (by omega) ?_; intro w1 hb1 hs1 hm1)
      rw [EI.out]
      generalize -x % B64 = v at *
      have hap : b3 ≠ wr.heap.size := hmR.apart h0 b3 o3 EPM.out
      obtain ⟨b1, o1, epa, d1⟩ := haR h0
      obtain ⟨b2, o2, epb, d2⟩ := hbR h0
      have HA : Hid _ := haR
      have HBB : Hid _ := hbR
      have HMM : Hid _ := hmR
      have la : b1 < wr.heap.size := cell_lt (d1 0 h0)
      have lb : b2 < wr.heap.size := cell_lt (d2 0 h0)
      have lm3 : b3 < wr.heap.size := cell_lt cr
      have D1 : Hid _ := d1
      have D2 : Hid _ := d2
      have D3 : Hid (∀ j, j < n → wr.cell? ⟨b3, o3 + j, none⟩ = some (.int .u64 (m j))) := by
        obtain ⟨b', o', e', d'⟩ := hmR h0
        rw [EPM.out] at e'
        injection e' with e'
        injection e' with e1 e2
        subst e1 e2
        exact d'
      rw [epa, epb]
      clear haR hbR hmR d1 d2 epa epb cr
      generalize wr = W0 at *
      go_loopw [11] (fun i wr => ∃ (j : Nat) (t : Nat → Int) (Q : Int), j ≤ n ∧ i = .int .i64 j ∧ Below W0.heap.size W0 wr ∧ Mut wr W0.heap.size 0 (n + 2) t ∧ Rg t (n + 2) ∧ val t (n + 1) * pw j = val f j * val g n + Q * val m n ∧ 0 ≤ Q ∧ Q < pw j) (fun i _ => n - (intOf i).toNat)
      case atStart => exact ⟨0, Z, 0, Nat.zero_le _, rfl, hb1, hm1, fun i _ => ⟨Int.le_refl _, B64_pos⟩, by rw [val_zero (f := Z) (fun _ _ => rfl)]; simp [val], Int.le_refl _, by simp [pw]⟩
      case round =>
        obtain ⟨i, t, Q, hi, rfl, hbel, hW, rt, hT, q0, q1⟩ := hrel
        clear hb1 hs1 hm1
        have HT : Hid _ := hT
        have HQ0 : Hid _ := q0
        have HQ1 : Hid _ := q1
        have HB : Hid _ := hbel
        clear hT q0 q1 hbel
        by_cases hlt : i < n
        · have rfi := rf i hlt
          have ai : ∀ wr : World, Below W0.heap.size W0 wr → Hid (wr.cell? ⟨b1, o1 + i, none⟩ = some (.int .u64 (f i))) := fun wr h => (h.cell (p := ⟨b1, o1 + i, none⟩) la).trans (D1.out i hlt)
          have bk : ∀ (wr : World) (k : Nat), Below W0.heap.size W0 wr → k < n → Hid (wr.cell? ⟨b2, o2 + k, none⟩ = some (.int .u64 (g k))) := fun wr k h hk => (h.cell (p := ⟨b2, o2 + k, none⟩) lb).trans (D2.out k hk)
          have mk : ∀ (wr : World) (k : Nat), Below W0.heap.size W0 wr → k < n → Hid (wr.cell? ⟨b3, o3 + k, none⟩ = some (.int .u64 (m k))) := fun wr k h hk => (h.cell (p := ⟨b3, o3 + k, none⟩) lm3).trans (D3.out k hk)
          have AI : Hid _ := ai
          have BK : Hid _ := bk
          have MK : Hid _ := mk
          have HW0 : Hid _ := hW
          clear ai bk mk hW
          go_wp2
          go_loopw [12, 13] (fun c k wr => ∃ j : Nat, j ≤ n ∧ k = .int .i64 j ∧ c = .int .u64 (ct t g (f i) j) ∧ Below W0.heap.size W0 wr ∧ Mut wr W0.heap.size 0 (n + 2) (mix (tm t g (f i)) t j)) (fun _ k _ => n - (intOf k).toNat)
          case atStart => exact ⟨0, Nat.zero_le _, rfl, rfl, HB.out, MutK.congr HW0.out (fun j _ => (mix_zero _ _ _).symm)⟩
          case round =>
            obtain ⟨k, hk, rfl, rfl, hbel, hW⟩ := hrel
            clear HB HW0
            have rc := ct_bd (rt.mono (show k ≤ n + 2 by omega)) (rg.mono hk) rfi
            by_cases hkn : k < n
            · have g1 := (AI.out wr hbel).out
              have g2 := (BK.out wr k hbel hkn).out
              obtain ⟨g0, gz⟩ := hW k (by omega)
              rw [mix_hi (Nat.le_refl k)] at g0
              simp only [Nat.zero_add] at g0 gz
              have r1 := rg k hkn
              have r2 := rt k (by omega)
              have M := show Hid _ from mul64_any (f i) (g k) rfi r1
              have q1 : 0 ≤ f i * g k % B64 := Int.emod_nonneg _ (by rw [B64_eq]; decide)
              have q2 : 0 ≤ (t k + f i * g k % B64 + 0) % B64 := Int.emod_nonneg _ (by rw [B64_eq]; decide)
              have h1 := add64_call (t k) (f i * g k % B64) 0 r2.1 q1 ⟨by decide, by decide⟩
              have h2 := add64_call ((t k + f i * g k % B64 + 0) % B64) (ct t g (f i) k) 0 q2 rc.1 ⟨by decide, by decide⟩
              obtain ⟨S1, S2⟩ := mul_step2 rfi r1 r2 rc
              simp only [Int.add_zero] at h1 h2
              have e1 : (g k * f i + t k + ct t g (f i) k) % B64 = tm t g (f i) k := rfl
              have e2 : (g k * f i + t k + ct t g (f i) k) / B64 = ct t g (f i) (k + 1) := rfl
              rw [e1] at S1
              rw [e2] at S2
              rw [S1] at h2
              have HE : Hid (IntKind.u64.wrap (IntKind.u64.wrap (f i * g k / B64 + (t k + f i * g k % B64) / B64) + ((t k + f i * g k % B64) % B64 + ct t g (f i) k) / B64) = ct t g (f i) (k + 1)) := by
                show _ = _
                simp only [IntKind.wrap_u64]
                rw [B64_eq] at S2 ⊢
                exact S2
              clear e1 e2 S1 S2 q1 q2
              generalize f i * g k / B64 = t1 at *
              generalize f i * g k % B64 = t2 at *
              generalize (t k + t2) / B64 = t3 at *
              generalize (t k + t2) % B64 = t4 at *
              generalize (t4 + ct t g (f i) k) / B64 = t5 at *
              have HWH : Hid _ := hW
              have HBH : Hid _ := hbel
              have R1 := show Hid _ from r1
              have R2 := show Hid _ from r2
              have R3 := show Hid _ from rc
              clear hW hbel r1 r2 rc
              go_wp2
              go_quiet ((go_at_call 71; exact Calls.quiet_of_same (M.out _)))
              have g0' : (wr.drewN nq).cell? ⟨W0.heap.size, k, none⟩ = some (.int .u64 (t k)) := g0
              have gz' : (wr.drewN nq).frozen? ⟨W0.heap.size, k, none⟩ = false := gz
              have HWV : Hid _ := MutK.drewN HWH.out nq
              have HBV : Hid _ := below_draws HBH.out nq
              clear g0 gz g1 g2 HWH HBH M
              generalize wr.drewN nq = V at *
              have hb4 : (k : Int) < (n : Int) + 2 := by omega
              go_wp2
              rw [HE.out]
              go_roundw
              case rel => exact ⟨k + 1, by omega, by go_num, rfl, Below.setCell HBV.out (by exact Nat.le_refl _) _, MutK.step0 HWV.out (by omega)⟩
              case measure => simp [intOf]; omega
            · have e : n = k := by omega
              subst e
              have cd := ct_div (rt.mono (Nat.le_succ _)) rg rfi
              have r2 := rt n (by omega)
              obtain ⟨g0, gz⟩ := hW n (by omega)
              obtain ⟨g1, gz1⟩ := hW (n + 1) (by omega)
              rw [mix_hi (Nat.le_refl n)] at g0
              simp only [Nat.zero_add] at g0 gz g1 gz1
              have h1 := add64_call (t n) (ct t g (f i) n) 0 r2.1 rc.1 ⟨by decide, by decide⟩
              simp only [Int.add_zero] at h1
              have rT := rd1_rg (rt.mono (Nat.le_succ _)) rg rfi
              have top : rd1 t g (f i) n (n + 1) ≤ 1 := by rw [rd1_top]; exact cd.2
              have vT := rd1_val t g (f i) n
              have eT : up (up (mix (tm t g (f i)) t n) n ((t n + ct t g (f i) n) % B64)) (n + 1) ((t n + ct t g (f i) n) / B64) = rd1 t g (f i) n := rfl
              have HWH : Hid _ := MutK.set0 (MutK.set0 hW (show n < n + 2 by omega) ((t n + ct t g (f i) n) % B64)) (show n + 1 < n + 2 by omega) ((t n + ct t g (f i) n) / B64)
              rw [eT] at HWH
              have HBH : Hid _ := hbel
              have VT : Hid _ := vT
              have TOP : Hid _ := top
              have RT : Hid _ := rT
              have R2 := show Hid _ from r2
              have R3 := show Hid _ from rc
              have CD := show Hid _ from cd
              clear hW hbel r2 rc cd vT top rT
              generalize rd1 t g (f i) n = u at *
              generalize (t n + ct t g (f i) n) % B64 = s1 at *
              generalize (t n + ct t g (f i) n) / B64 = s2 at *
              have hb4 : (n : Int) + 1 < (n : Int) + 2 := by omega
              have hb5 : (n : Int) < (n : Int) + 2 := by omega
              have k1 : (wr.setCell ⟨W0.heap.size, n, none⟩ (.int .u64 s1)).cell? ⟨W0.heap.size, n + 1, none⟩ = some (.int .u64 (mix (tm t g (f i)) t n (n + 1))) := by
                rw [World.cell?_setCell_other _ _ _ _ (by intro e'; injection e'; omega)]; exact g1
              have k2 : (wr.setCell ⟨W0.heap.size, n, none⟩ (.int .u64 s1)).frozen? ⟨W0.heap.size, n + 1, none⟩ = false := by simpa using gz1
              have k3 : ((wr.setCell ⟨W0.heap.size, n, none⟩ (.int .u64 s1)).setCell ⟨W0.heap.size, n + 1, none⟩ (.int .u64 s2)).cell? ⟨W0.heap.size, 0, none⟩ = some (.int .u64 (u 0)) := (HWH.out 0 (by omega)).1
              have hb6 : (0 : Int) < (n : Int) + 2 := by omega
              have k4 : wr.cell? ⟨b3, o3, none⟩ = some (.int .u64 (m 0)) := (MK.out wr 0 HBH.out h0).out
              have Qq : 0 ≤ IntKind.u64.wrap (u 0 * v) ∧ IntKind.u64.wrap (u 0 * v) < B64 := by
                rw [IntKind.wrap_u64, B64_eq]; exact ⟨Int.emod_nonneg _ (by decide), Int.emod_lt_of_pos _ (by decide)⟩
              have Z0 : Hid ((m 0 * IntKind.u64.wrap (u 0 * v) + u 0) % B64 = 0) := by
                have := (VI (u 0)).out
                show _ = _
                rw [IntKind.wrap_u64]; rw [B64_eq] at this ⊢; exact this
              have u0 := RT.out 0 (by omega)
              have M := show Hid _ from mul64_any (IntKind.u64.wrap (u 0 * v)) (m 0) Qq m0
              have q1 : 0 ≤ IntKind.u64.wrap (u 0 * v) * m 0 % B64 := Int.emod_nonneg _ (by rw [B64_eq]; decide)
              have h2 := add64_call (u 0) (IntKind.u64.wrap (u 0 * v) * m 0 % B64) 0 u0.1 q1 ⟨by decide, by decide⟩
              simp only [Int.add_zero] at h2
              have HE : Hid (IntKind.u64.wrap (IntKind.u64.wrap (u 0 * v) * m 0 / B64 + (u 0 + IntKind.u64.wrap (u 0 * v) * m 0 % B64) / B64) = ct u m (IntKind.u64.wrap (u 0 * v)) 1) := by
                have := mul_step1 Qq m0 u0
                show _ = (m 0 * _ + u 0 + 0) / B64
                rw [Int.add_zero, ← this]
                rw [IntKind.wrap_u64 (_ + _), B64_eq]
              have ZT : Hid (tm u m (IntKind.u64.wrap (u 0 * v)) 0 = 0) := by
                show (m 0 * _ + u 0 + 0) % B64 = 0
                rw [Int.add_zero]; exact Z0.out
              have QQ := show Hid _ from Qq
              have U0 := show Hid _ from u0
              clear Qq u0 q1 Z0
              generalize eqq : IntKind.u64.wrap (u 0 * v) = qq at *
              have HQQ := show Hid _ from eqq
              clear eqq
              generalize qq * m 0 / B64 = t1 at *
              generalize qq * m 0 % B64 = t2 at *
              generalize (u 0 + t2) / B64 = t3 at *
              generalize (u 0 + t2) % B64 = t4 at *
              go_wp2_with (rw [HQQ.out]; go_at_call 71; refine Calls.mono (M.out _) ?_; rintro e w' ⟨rfl, rfl⟩)
              rw [HE.out]
              have HBW : Hid _ := Below.setCell (Below.setCell HBH.out (p := ⟨W0.heap.size, n, none⟩) (by exact Nat.le_refl _) (.int .u64 s1)) (p := ⟨W0.heap.size, n + 1, none⟩) (by exact Nat.le_refl _) (.int .u64 s2)
              clear g0 gz g1 gz1 k1 k2 k3 k4 eT h1 h2 HE M HBH
              generalize (wr.setCell ⟨W0.heap.size, n, none⟩ (Value.int .u64 s1)).setCell ⟨W0.heap.size, n + 1, none⟩ (Value.int .u64 s2) = W2 at *
              go_loopw [12, 24] (fun c k wr => ∃ j : Nat, j + 1 ≤ n ∧ k = .int .i64 ((j : Int) + 1) ∧ c = .int .u64 (ct u m qq (j + 1)) ∧ Below W0.heap.size W0 wr ∧ Mut wr W0.heap.size 0 (n + 2) (mix (sh (tm u m qq) 1) u j)) (fun _ k _ => n - (intOf k).toNat)
              case atStart => exact ⟨0, by omega, rfl, rfl, HBW.out, MutK.congr HWH.out (fun j _ => (mix_zero _ _ _).symm)⟩
              case round =>
                obtain ⟨k, hk2, rfl, rfl, hbel, hW⟩ := hrel
                clear HBW HWH
                have rc := ct_bd (Rg.mono RT.out (show k + 1 ≤ n + 2 by omega)) (rm.mono hk2) QQ.out
                by_cases hkn2 : k + 1 < n
                · have g2 := (MK.out wr (k + 1) hbel hkn2).out
                  obtain ⟨g0, gz⟩ := hW k (by omega)
                  obtain ⟨g1, -⟩ := hW (k + 1) (by omega)
                  rw [mix_hi (Nat.le_refl k)] at g0
                  rw [mix_hi (Nat.le_succ k)] at g1
                  simp only [Nat.zero_add] at g0 gz g1
                  have r1 := rm (k + 1) hkn2
                  have r2 := RT.out (k + 1) (by omega)
                  have M := show Hid _ from mul64_any qq (m (k + 1)) QQ.out r1
                  have q1 : 0 ≤ qq * m (k + 1) % B64 := Int.emod_nonneg _ (by rw [B64_eq]; decide)
                  have q2 : 0 ≤ (u (k + 1) + qq * m (k + 1) % B64 + 0) % B64 := Int.emod_nonneg _ (by rw [B64_eq]; decide)
                  have h1 := add64_call (u (k + 1)) (qq * m (k + 1) % B64) 0 r2.1 q1 ⟨by decide, by decide⟩
                  have h2 := add64_call ((u (k + 1) + qq * m (k + 1) % B64 + 0) % B64) (ct u m qq (k + 1)) 0 q2 rc.1 ⟨by decide, by decide⟩
                  obtain ⟨S1, S2⟩ := mul_step2 QQ.out r1 r2 rc
                  simp only [Int.add_zero] at h1 h2
                  have e1 : (m (k + 1) * qq + u (k + 1) + ct u m qq (k + 1)) % B64 = sh (tm u m qq) 1 k := by
                    show _ = tm u m qq (1 + k)
                    rw [Nat.add_comm 1 k]; rfl
                  have e2 : (m (k + 1) * qq + u (k + 1) + ct u m qq (k + 1)) / B64 = ct u m qq (k + 1 + 1) := rfl
                  rw [e1] at S1
                  rw [e2] at S2
                  rw [S1] at h2
                  have HE : Hid (IntKind.u64.wrap (IntKind.u64.wrap (qq * m (k + 1) / B64 + (u (k + 1) + qq * m (k + 1) % B64) / B64) + ((u (k + 1) + qq * m (k + 1) % B64) % B64 + ct u m qq (k + 1)) / B64) = ct u m qq (k + 1 + 1)) := by
                    show _ = _
                    simp only [IntKind.wrap_u64]
                    rw [B64_eq] at S2 ⊢
                    exact S2
                  clear e1 e2 S1 S2 q1 q2
                  generalize qq * m (k + 1) / B64 = t1 at *
                  generalize qq * m (k + 1) % B64 = t2 at *
                  generalize (u (k + 1) + t2) / B64 = t3 at *
                  generalize (u (k + 1) + t2) % B64 = t4 at *
                  generalize (t4 + ct u m qq (k + 1)) / B64 = t5 at *
                  have HWH : Hid _ := hW
                  have HBH : Hid _ := hbel
                  have R1 := show Hid _ from r1
                  have R2 := show Hid _ from r2
                  have R3 := show Hid _ from rc
                  clear hW hbel r1 r2 rc
                  have hb4 : (k : Int) + 1 < (n : Int) := by omega
                  have hb5 : (k : Int) < (n : Int) + 2 := by omega
                  have hb6 : (k : Int) + 1 < (n : Int) + 2 := by omega
                  go_wp2_with (go_at_call 71; refine Calls.mono (M.out _) ?_; rintro e w' ⟨rfl, rfl⟩)
                  rw [HE.out]
                  go_roundw
                  case rel => exact ⟨k + 1, by omega, by go_num, rfl, Below.setCell HBH.out (by exact Nat.le_refl _) _, MutK.step0 HWH.out (by omega)⟩
                  case measure => simp [intOf]; omega
                · have e : n = k + 1 := by omega
                  subst e
                  have cd := ct_div (Rg.mono RT.out (Nat.le_succ _)) rm QQ.out
                  have r2 := RT.out (k + 1) (by omega)
                  have r3 := RT.out (k + 1 + 1) (by omega)
                  have rR := rd2_rg h0 RT.out TOP.out rm QQ.out
                  have vR := rd2_val h0 ZT.out
                  obtain ⟨g0, gz⟩ := hW k (by omega)
                  obtain ⟨g1, gz1⟩ := hW (k + 1) (by omega)
                  obtain ⟨g2, -⟩ := hW (k + 1 + 1) (by omega)
                  rw [mix_hi (show k ≤ k + 1 by omega)] at g1
                  rw [mix_hi (show k ≤ k + 1 + 1 by omega)] at g2
                  simp only [Nat.zero_add] at g0 gz g1 gz1 g2
                  have h1 := add64_call (u (k + 1)) (ct u m qq (k + 1)) 0 r2.1 rc.1 ⟨by decide, by decide⟩
                  simp only [Int.add_zero] at h1
                  have eT : up (up (mix (sh (tm u m qq) 1) u k) k ((u (k + 1) + ct u m qq (k + 1)) % B64)) (k + 1) (u (k + 1 + 1) + (u (k + 1) + ct u m qq (k + 1)) / B64) = rd2 u m qq (k + 1) := rfl
                  have HW' : Hid _ := MutK.set0 (MutK.set0 hW (show k < k + 1 + 2 by omega) ((u (k + 1) + ct u m qq (k + 1)) % B64)) (show k + 1 < k + 1 + 2 by omega) (u (k + 1 + 1) + (u (k + 1) + ct u m qq (k + 1)) / B64)
                  rw [eT] at HW'
                  have EW : Hid (IntKind.u64.wrap (u (k + 1 + 1) + (u (k + 1) + ct u m qq (k + 1)) / B64) = u (k + 1 + 1) + (u (k + 1) + ct u m qq (k + 1)) / B64) := by
                    show _ = _
                    have := TOP.out
                    rw [IntKind.wrap_u64]; rw [B64_eq] at *; omega
                  have HBH : Hid _ := hbel
                  have VR : Hid _ := vR
                  have RR : Hid _ := rR
                  have R2 := show Hid _ from r2
                  have R3 := show Hid _ from rc
                  have R4 := show Hid _ from r3
                  have CD := show Hid _ from cd
                  clear hW hbel r2 r3 rc cd vR rR eT
                  generalize rd2 u m qq (k + 1) = u' at *
                  generalize (u (k + 1) + ct u m qq (k + 1)) % B64 = s1 at *
                  generalize (u (k + 1) + ct u m qq (k + 1)) / B64 = s2 at *
                  have hb5 : (k : Int) + 1 < (k : Int) + 1 + 2 := by omega
                  have hb6 : (k : Int) + 1 + 1 < (k : Int) + 1 + 2 := by omega
                  have hb7 : (k : Int) < (k : Int) + 1 + 2 := by omega
                  have k1 : (wr.setCell ⟨W0.heap.size, k, none⟩ (.int .u64 s1)).cell? ⟨W0.heap.size, k + 1, none⟩ = some (.int .u64 (u (k + 1))) := by
                    rw [World.cell?_setCell_other _ _ _ _ (by intro e'; injection e'; omega)]; exact g1
                  have k2 : (wr.setCell ⟨W0.heap.size, k, none⟩ (.int .u64 s1)).frozen? ⟨W0.heap.size, k + 1, none⟩ = false := by simpa using gz1
                  go_wp2
                  rw [EW.out]
                  go_roundw
                  case rel =>
                    have hv := VR.out
                    rw [VT.out] at hv
                    have hq := rd_q HQ0.out HQ1.out QQ.out.1 QQ.out.2 (pw_pos i)
                    exact ⟨i + 1, u', Q + qq * pw i, by omega, by go_num, Below.setCell (Below.setCell HBH.out (by exact Nat.le_refl _) _) (by exact Nat.le_refl _) _, HW'.out, RR.out, rd_inv HT.out hv, hq.1, hq.2⟩
                  case measure => simp [intOf]; omega
        · have e : n = i := by omega
          subst e
          have bf := val_bd rf
          have bg := val_bd rg
          have bm := val_bd rm
          have bt := val_bd (rt.mono (show n ≤ n + 2 by omega))
          have lt2 := mont_lt HT.out bf ⟨bg.1, LG.out⟩ ⟨HQ0.out, HQ1.out⟩
          have md := mont_mod HT.out
          have hTn : val t (n + 1) = val t n + t n * pw n := rfl
          have rn := rt n (by omega)
          have t01 : t n = 0 ∨ t n = 1 := by
            have : ¬ 2 ≤ t n := fun h => by
              have := Int.mul_le_mul_of_nonneg_right h (Int.le_of_lt (pw_pos n))
              omega
            omega
          have hmW : At wr (some ⟨b3, o3, none⟩) n m := by rw [← EPM.out]; exact AtK.below HMM.out HB.out
          have HBT : Hid (Below w.heap.size w wr) := by
            show Below _ _ _
            rw [← HS0.out]; exact Below.trans HB0.out HB.out
          have hsz : W0.heap.size < wr.heap.size := cell_lt (hW 0 (by omega)).1
          obtain ⟨g1, gz1⟩ := hW n (by omega)
          simp only [Nat.zero_add] at g1 gz1
          have rt' : Rg t n := rt.mono (show n ≤ n + 2 by omega)
          have RT : Hid _ := rt'
          have RM : Hid _ := rm
          have HW : Hid _ := hW
          have HZ : Hid _ := hsz
          have HMW : Hid _ := hmW
          have L2 : Hid _ := lt2
          have MD : Hid _ := md
          have HTN : Hid _ := hTn
          have BM : Hid _ := bm
          have BT : Hid _ := bt
          clear hW hsz hmW lt2 md hTn bf bg bm bt rt rt' rn rf rg rm HT HQ0 HQ1 HA HBB HMM D1 D2 D3 HB
          have hb5 : (n : Int) < (n : Int) + 2 := by omega
          have hb6 : (n : Int) ≤ (n : Int) + 2 := by omega
          rcases t01 with t0 | t1
          · rw [t0] at g1
            have K : Hid _ := below_any (some ⟨W0.heap.size, 0, none⟩) (some ⟨b3, o3, none⟩) n n (n + 2) cm t m wr (Nat.le_refl _) (by omega) (MutK.at (MutK.mono HW.out (by omega))) HMW.out RT.out RM.out
            have VT : Hid (val t (n + 1) = val t n) := by show _ = _; rw [HTN.out, t0]; omega
            have T0 : Hid _ := t0
            clear t0
            by_cases hlt2 : val t n < val m n
            · have K2 : Hid _ := K.out
              rw [decide_eq_true hlt2] at K2
              have HL : Hid _ := hlt2
              clear hlt2 K
              go_wp2_with fail
              refine Calls.mono K2.out ?_
              rintro e w2 ⟨rfl, q, rfl⟩
              go_wp2
              go_ret
              refine ⟨_, val t n, rfl, ⟨below_draws HBT.out q, W0.heap.size, 0, n + 2, t, rfl, by rw [HS0.out]; exact Nat.le_refl _, HZ.out, by omega, by omega, MutK.drewN (MutK.mono HW.out (by omega)) q, RT.out, rfl⟩, HL.out, ?_⟩
              rw [← VT.out]; exact MD.out
            · have K2 : Hid _ := K.out
              rw [decide_eq_false hlt2] at K2
              have HL : Hid (val m n ≤ val t n) := by show _ ≤ _; omega
              clear hlt2 K
              go_wp2_with fail
              refine Calls.mono K2.out ?_
              rintro e w2 ⟨rfl, q, rfl⟩
              have S : Hid _ := refSub_any W0.heap.size 0 (n + 2) (n + 2) t (some ⟨b3, o3, none⟩) n cm m (wr.drewN q) (by omega) (by omega) (MutK.drewN HW.out q) (AtK.drewN HMW.out q) (fun _ b' o' e => by injection e with e; injection e with e1 e2; subst e1; exact hap) RT.out RM.out
              have HB2 : Hid _ := below_draws HBT.out q
              have hz2 : W0.heap.size < (wr.drewN q).heap.size := HZ.out
              have HZ2 : Hid _ := hz2
              clear hz2 HMW HZ HBT HW g1 gz1
              generalize wr.drewN q = V at *
              go_wp2_with fail
              refine Calls.mono S.out ?_
              rintro e w2 ⟨rfl, hu, hM2⟩
              have HU : Hid _ := hu
              have HM2 : Hid _ := hM2
              clear hu hM2 S
              go_wp2
              go_ret
              have EV := val_df_ge RT.out RM.out HL.out
              have hs := Upd.size HU.out
              refine ⟨_, val t n - val m n, rfl, ⟨Below.trans HB2.out (Upd.below HU.out (by rw [HS0.out]; exact Nat.le_refl _)), W0.heap.size, 0, n + 2, df t m, rfl, by rw [HS0.out]; exact Nat.le_refl _, by rw [hs]; exact HZ2.out, by omega, by omega, MutK.congr (MutK.mono HM2.out (by omega)) fun j hj => mix_lo hj, df_rg _ _ _, EV⟩, ?_, ?_⟩
              · have := L2.out; rw [VT.out] at this; omega
              · rw [mont_mod_less, ← VT.out]; exact MD.out
          · rw [t1] at g1
            have VT : Hid (val t (n + 1) = val t n + 1 * pw n) := by show _ = _; rw [HTN.out, t1]
            have T1 : Hid _ := t1
            have S : Hid _ := refSub_any W0.heap.size 0 (n + 2) (n + 2) t (some ⟨b3, o3, none⟩) n cm m wr (by omega) (by omega) HW.out HMW.out (fun _ b' o' e => by injection e with e; injection e with e1 e2; subst e1; exact hap) RT.out RM.out
            clear t1
            go_wp2_with fail
            refine Calls.mono S.out ?_
            rintro e w2 ⟨rfl, hu, hM2⟩
            have HU : Hid _ := hu
            have HM2 : Hid _ := hM2
            clear hu hM2 S
            go_wp2
            go_ret
            have v1 := VT.out
            have v2 := BM.out
            have v3 := BT.out
            have v4 := L2.out
            have EV := val_df_top RT.out RM.out (c := 1) (by omega) (by omega) (Or.inr rfl)
            have hs := Upd.size HU.out
            refine ⟨_, val t (n + 1) - val m n, rfl, ⟨Below.trans HBT.out (Upd.below HU.out (by rw [HS0.out]; exact Nat.le_refl _)), W0.heap.size, 0, n + 2, df t m, rfl, by rw [HS0.out]; exact Nat.le_refl _, by rw [hs]; exact HZ.out, by omega, by omega, MutK.congr (MutK.mono HM2.out (by omega)) fun j hj => mix_lo hj, df_rg _ _ _, by rw [EV, v1]⟩, by omega, ?_⟩
            rw [mont_mod_less]; exact MD.out
end Go.Proofs.YtgdmjngajjoliaaDoor
