/- What the document's Rest answers. -/
import Derived.Test.YtgdmjngajjoliaaDoorWM
namespace Go.Proofs.YtgdmjngajjoliaaDoor
open Go.RowKit
set_option linter.unusedVariables false

theorem refBit_any (p : Option Addr) (n cap : Nat) (f : Nat → Int) (i : Nat) (w : World) (hn : n ≤ 100000) (hi : i < 64 * n) (hi2 : i ≤ 6400000) (hc : At w p n f) (rf : Rg f n) :
    Calls Tryd.prog 57 #[.slice p n cap, .int .i64 i] w fun e w' => e = .returned (.int .u64 (f (i / 64) / 2 ^ (i % 64) % 2)) ∧ w' = w := by
  obtain ⟨b, off, rfl, hcell⟩ := hc (by omega)
  have hm1 := hcell (i / 64) (by omega)
  have r := rf (i / 64) (by omega)
  have hbit : bits BinOp.and IntKind.u64 (f (i / 64) / 2 ^ (i % 64)) 1 = f (i / 64) / 2 ^ (i % 64) % 2 := and_one _ (Int.ediv_nonneg r.1 (Int.le_of_lt (Int.pow_pos (by decide)))) (by
    have := Int.ediv_le_self (2 ^ (i % 64)) r.1
    rw [B64_eq] at r
    omega)
  have HB : Hid _ := hbit
  have i1 : (i : Int) / 64 < (n : Int) := by omega
  clear hcell hc hbit r rf
  go_enter Tryd.func57, Tryd.ntmps57
  go_wp2
  go_ret
  exact ⟨ret_int HB.out, rfl⟩

theorem two_pow_64 (q : Nat) : (2 : Int) ^ (64 * q) = pw q := by
  induction q with
  | zero => rfl
  | succ q ih =>
    rw [show 64 * (q + 1) = 64 * q + 64 by omega, Int.pow_add, ih, pw]; rfl

/-- A bit of a number is a bit of one of its limbs. -/
theorem bit_of {f : Nat → Int} {n i : Nat} (rf : Rg f n) (hi : i < 64 * n) : val f n / 2 ^ i % 2 = f (i / 64) / 2 ^ (i % 64) % 2 := by
  have e1 : (2 : Int) ^ i = pw (i / 64) * 2 ^ (i % 64) := by
    rw [← two_pow_64, ← Int.pow_add]; congr 1; omega
  obtain ⟨q, hq⟩ : ∃ q, q = i / 64 := ⟨_, rfl⟩
  obtain ⟨t, ht⟩ : ∃ t, t = i % 64 := ⟨_, rfl⟩
  have hqn : q < n := by omega
  have htt : t < 64 := by omega
  rw [e1, ← hq, ← ht]
  have p := pw_pos q
  rw [← Int.ediv_ediv_of_nonneg (Int.le_of_lt p)]
  have vb := val_bd (rf.mono (show q ≤ n by omega))
  have e2 := val_sh f q (n - q)
  rw [show q + (n - q) = n by omega] at e2
  have e3 : val f n / pw q = val (sh f q) (n - q) := by
    rw [e2, Int.add_mul_ediv_left _ _ (by omega), Int.ediv_eq_zero_of_lt vb.1 vb.2]; omega
  rw [e3, show n - q = (n - q - 1) + 1 by omega, sh_step]
  generalize val (sh f (q + 1)) (n - q - 1) = z
  have e4 : B64 = 2 ^ t * 2 ^ (64 - t) := by
    rw [← Int.pow_add, show t + (64 - t) = 64 by omega]; rfl
  have p2 : (0 : Int) < 2 ^ t := Int.pow_pos (by decide)
  rw [e4, show z * (2 ^ t * 2 ^ (64 - t)) + f q = f q + 2 ^ t * (z * 2 ^ (64 - t)) by grind, Int.add_mul_ediv_left _ _ (by omega)]
  have e5 : (2 : Int) ^ (64 - t) = 2 * 2 ^ (63 - t) := by rw [show 64 - t = (63 - t) + 1 by omega, Int.pow_succ, Int.mul_comm]
  rw [e5, show z * (2 * 2 ^ (63 - t)) = 2 * (z * 2 ^ (63 - t)) by grind]
  generalize z * 2 ^ (63 - t) = y
  generalize f q / 2 ^ t = x
  omega

/-- What is left of X without its j lowest bits. -/
def vr (X M : Int) (j : Nat) : Int := (X / 2 ^ j) % M

theorem vr_step {X M : Int} {j : Nat} (hM : 0 < M) : vr X M j = if 2 * vr X M (j + 1) + X / 2 ^ j % 2 < M then 2 * vr X M (j + 1) + X / 2 ^ j % 2 else 2 * vr X M (j + 1) + X / 2 ^ j % 2 - M := by
  have b0 : 0 ≤ X / 2 ^ j % 2 ∧ X / 2 ^ j % 2 < 2 := by omega
  have v0 : 0 ≤ vr X M (j + 1) := Int.emod_nonneg _ (by omega)
  have v1 : vr X M (j + 1) < M := Int.emod_lt_of_pos _ hM
  have e : vr X M j = (2 * vr X M (j + 1) + X / 2 ^ j % 2) % M := by
    unfold vr
    have hb := bit_split X j
    generalize X / 2 ^ j % 2 = b at *
    generalize X / 2 ^ (j + 1) = y at *
    generalize X / 2 ^ j = z at *
    rw [hb]
    rw [Int.add_emod, Int.mul_emod, Int.add_emod (2 * (y % M)), Int.mul_emod 2 (y % M), Int.emod_emod]
  rw [e]
  split
  · rename_i h; exact Int.emod_eq_of_lt (by omega) h
  · rename_i h
    rw [show 2 * vr X M (j + 1) + X / 2 ^ j % 2 = (2 * vr X M (j + 1) + X / 2 ^ j % 2 - M) + M by omega, Int.add_emod_right]
    rw [Int.emod_eq_of_lt (by omega) (by omega)]; omega

theorem len_le_of {f g : Nat → Int} {n k : Nat} (rf : Rg f n) (nf : Nm f n) (rg : Rg g k) (h : val f n < val g k) : n ≤ k := by
  rcases Nat.lt_or_ge k n with c | c
  · have := len_lt rg rf nf c; omega
  · exact c

theorem refRest_zero (pa pm : Option Addr) (na nm ca cm : Nat) (fa fm : Nat → Int) (w : World) (l1m : nm ≤ cm) (l2m : cm ≤ 9223372036854775807) (hm : At w pm nm fm) (rm : Rg fm nm) (kM : nm ≤ 1000) (hz : val fm nm = 0) :
    Calls Tryd.prog 49 #[.slice pa na ca, .slice pm nm cm] w fun e w' => e = .returned (.tuple #[.slice none 0 0, .int .i64 7]) ∧ Below w.heap.size w w' := by
  have C := cut_any pm nm cm fm w l1m l2m hm (by omega)
  have z : tl fm nm = 0 := by
    have e := val_tl fm nm
    have n := nm_tl fm nm
    have r := rm.mono (tl_le fm nm)
    generalize tl fm nm = k at *
    cases k with
    | zero => rfl
    | succ k => have a := nm_lb r n
                have b := pw_pos k
                omega
  rw [z] at C
  have HC : Hid _ := C
  clear C z hz
  go_enter Tryd.func49, Tryd.ntmps49
  go_wp2_with fail
  refine Calls.mono HC.out ?_
  rintro e w1 ⟨p1, c1, rfl, B1, a1, l1, l1'⟩
  go_wp2
  go_ret2
  exact ⟨rfl, B1⟩

set_option maxHeartbeats 1000000 in
theorem refRest_any (pa pm : Option Addr) (na nm ca cm : Nat) (fa g : Nat → Int) (w : World) (l1a : na ≤ ca) (l2a : ca ≤ 9223372036854775807) (l1m : nm ≤ cm) (l2m : cm ≤ 9223372036854775807) (ha : At w pa na fa) (hg : At w pm nm g) (ra : Rg fa na) (rg : Rg g nm) (kN : na ≤ 1000) (kM : nm ≤ 1000) (hz : val g nm ≠ 0) :
    Calls Tryd.prog 49 #[.slice pa na ca, .slice pm nm cm] w fun e w' => ∃ v, e = .returned (.tuple #[v, .int .i64 0]) ∧ NewP w w' v nm (val fa na % val g nm) := by
  have lg := tl_le g nm
  have C : Hid _ := cut_any pm nm cm g w l1m l2m hg (by omega)
  rw [← val_tl g nm] at hz
  rw [← val_tl g nm]
  have rg' := rg.mono lg
  have bits : ∀ i, i < 64 * na → Hid (fa (i / 64) / 2 ^ (i % 64) % 2 = val fa na / 2 ^ i % 2) := fun i hi => (bit_of ra hi).symm
  have vX := val_bd ra
  clear rg hg
  generalize tl g nm = k at *
  have hk : 0 < k := by
    rcases Nat.eq_zero_or_pos k with e | e
    · subst e; exact absurd rfl hz
    · exact e
  have hM0 : 0 < val g k := by have := (val_bd rg').1; omega
  obtain ⟨X, hX⟩ : ∃ X, X = val fa na := ⟨_, rfl⟩
  rw [← hX] at bits vX ⊢
  have top : vr X (val g k) (64 * na) = 0 := by
    unfold vr
    rw [two_pow_64, Int.ediv_eq_zero_of_lt vX.1 vX.2]; simp
  have bot : vr X (val g k) 0 = X % val g k := by
    unfold vr
    rw [show X / 2 ^ 0 = X by simp]
  have TOP : Hid _ := top
  have BOT : Hid _ := bot
  clear hX vX top bot hz
  go_enter Tryd.func49, Tryd.ntmps49
  go_wp2_with fail
  refine Calls.mono C.out ?_
  rintro e w0 ⟨pm', cm', rfl, B0, hg', hm1, hm2⟩
  clear C
  have hk0 : ((k : Int) == 0) = false := by simp; omega
  go_wp2
  go_loopw [6, 7] (fun r i wr => ∃ j : Nat, j ≤ 64 * na ∧ i = .int .i64 ((j : Int) - 1) ∧ ∃ (p : Option Addr) (n c : Nat) (f : Nat → Int), r = .slice p n c ∧ n ≤ c ∧ c ≤ 9223372036854775807 ∧ At wr p n f ∧ Rg f n ∧ Nm f n ∧ val f n = vr X (val g k) j ∧ Below w.heap.size w wr ∧ Below w0.heap.size w0 wr) (fun _ i _ => (intOf i + 1).toNat)
  case atStart => exact ⟨64 * na, Nat.le_refl _, by go_num, none, 0, 0, Z, rfl, Nat.le_refl _, by decide, AtK.nil, fun i hi => absurd hi (by omega), Or.inl rfl, TOP.out.symm, B0, Below.refl _ _⟩
  case round =>
    obtain ⟨j, hj, rfl, pr, nr, cr, fr, rfl, kr, kr', ar, rr, mr, vr0, hbel, hbel0⟩ := hrel
    have vlt : val fr nr < val g k := by rw [vr0]; exact Int.emod_lt_of_pos _ hM0
    have nk : nr ≤ k := len_le_of rr mr rg' vlt
    cases j with
    | zero =>
      have VV : Hid (val fr nr = X % val g k) := by show _ = _; rw [vr0, BOT.out]
      have HR := cut_own pr nr cr fr wr kr kr' ar (by omega)
      rw [tl_of_nm mr] at HR
      have HR' : Hid _ := HR
      have HBE : Hid _ := hbel
      clear HR vr0 hbel hbel0 vlt
      go_wp2_with fail
      refine Calls.mono HR'.out ?_
      rintro e w3 ⟨v3, rfl, hb3, ho3⟩
      have HO : Hid _ := ho3
      have HB3 : Hid _ := Below.up HBE.out (Nat.le_refl _) hb3
      clear ho3 hb3
      go_wp2
      go_ret2
      exact ⟨_, rfl, Own.newP (Own.base HO.out (Below.size HBE.out)) HB3.out (by omega) rr mr VV.out⟩
    | succ j =>
      have hj64 : j < 64 * na := by omega
      have BV := bits j hj64
      have ST : Hid _ := vr_step (X := X) (M := val g k) (j := j) hM0
      rw [← vr0] at ST
      have vlo := (val_bd rr).1
      have S1 : Hid _ := refSum_any pr pr nr nr cr cr fr fr wr kr kr' kr kr' ar ar rr rr (by omega) (by omega)
      rw [show ((j + 1 : Nat) : Int) - 1 = (j : Int) by omega]
      clear bits vr0
      replace hg' := hg'.below hbel0
      rcases (show X / 2 ^ j % 2 = 1 ∨ X / 2 ^ j % 2 = 0 by omega) with hc | hc
      · rw [hc] at ST
        by_cases hlt : 2 * val fr nr + 1 < val g k
        · have HLT : Hid _ := hlt
          go_wp2_with fail
          refine Calls.mono S1.out ?_
          rintro e w1 ⟨v1, rfl, B1, p1, n1, c1, f1, rfl, k1, k1', k1N, a1, r1, m1, v1⟩
          have V1 : Hid _ := v1
          have N1 : n1 ≤ 100000 := by omega
          have C1 := Below.up hbel (Nat.le_refl _) B1
          have D1 := Below.up hbel0 (Nat.le_refl _) B1
          have ha1 := ha.below C1
          have hg1 := hg'.below B1
          have HB : Hid _ := refBit_any pa na ca fa j w1 (by omega) hj64 (by omega) ha1 ra
          clear v1 B1 S1
          go_wp2_with fail
          refine Calls.mono HB.out ?_
          rintro e w1 ⟨rfl, rfl⟩
          rw [BV.out, hc]
          have S2 : Hid _ := refSum_any p1 (some ⟨w1.heap.size, 0, none⟩) n1 1 c1 1 f1 (one 1) _ k1 k1' (Nat.le_refl _) (by decide) (a1.below (below_one w1 (.cells #[.int .u64 1] 22))) (at_one w1 1 22) r1 (one_rg ⟨by decide, by rw [B64_eq]; decide⟩ 1) (by omega) (by decide)
          have C2 := Below.up C1 (Nat.le_refl _) (below_one w1 (.cells #[.int .u64 1] 22))
          have D2 := Below.up D1 (Nat.le_refl _) (below_one w1 (.cells #[.int .u64 1] 22))
          have hg2 := hg1.below (below_one w1 (.cells #[.int .u64 1] 22))
          clear hg1 C1 ha1 HB
          go_wp2_with fail
          refine Calls.mono S2.out ?_
          rintro e w2 ⟨v2, rfl, B2, p2, n2, c2, f2, rfl, k2, k2', k2N, a2, r2, m2, v2⟩
          have V2 : Hid (val f2 n2 = 2 * val fr nr + 1) := by show _ = _; rw [v2, V1.out, val_one]; omega
          have C3 := Below.up C2 (Nat.le_refl _) B2
          have D3 := Below.up D2 (Nat.le_refl _) B2
          clear D2 D1
          have hg3 := hg2.below B2
          clear v2 B2 C2 hg2 S2
          have CM := refCompare_any p2 pm' n2 k c2 cm' f2 g w2 k2 k2' hm1 hm2 a2 hg3 r2 rg' (by omega) (by omega)
          rw [ord_lt (by have := V2.out; omega)] at CM
          have HCM : Hid _ := CM
          clear CM
          go_wp2_with fail
          refine Calls.mono HCM.out ?_
          rintro e w3 ⟨rfl, B3⟩
          have C4 := Below.up C3 (Nat.le_refl _) B3
          have D4 := Below.up D3 (Nat.le_refl _) B3
          clear D3
          have a3 := a2.below B3
          have V4 : Hid (val f2 n2 = vr X (val g k) j) := by show _ = _; rw [V2.out, ST.out, if_pos (by omega)]
          clear B3 C3 hg3 HCM a2
          go_wp2
          go_roundw
          case rel => exact ⟨j, by omega, by go_num, p2, n2, c2, f2, rfl, k2, k2', a3, r2, m2, V4.out, C4, D4⟩
          case measure => simp [intOf]
        · go_wp2_with fail
          refine Calls.mono S1.out ?_
          rintro e w1 ⟨v1, rfl, B1, p1, n1, c1, f1, rfl, k1, k1', k1N, a1, r1, m1, v1⟩
          have V1 : Hid _ := v1
          have N1 : n1 ≤ 100000 := by omega
          have C1 := Below.up hbel (Nat.le_refl _) B1
          have D1 := Below.up hbel0 (Nat.le_refl _) B1
          have ha1 := ha.below C1
          have hg1 := hg'.below B1
          have HB : Hid _ := refBit_any pa na ca fa j w1 (by omega) hj64 (by omega) ha1 ra
          clear v1 B1 S1
          go_wp2_with fail
          refine Calls.mono HB.out ?_
          rintro e w1 ⟨rfl, rfl⟩
          rw [BV.out, hc]
          have S2 : Hid _ := refSum_any p1 (some ⟨w1.heap.size, 0, none⟩) n1 1 c1 1 f1 (one 1) _ k1 k1' (Nat.le_refl _) (by decide) (a1.below (below_one w1 (.cells #[.int .u64 1] 22))) (at_one w1 1 22) r1 (one_rg ⟨by decide, by rw [B64_eq]; decide⟩ 1) (by omega) (by decide)
          have C2 := Below.up C1 (Nat.le_refl _) (below_one w1 (.cells #[.int .u64 1] 22))
          have D2 := Below.up D1 (Nat.le_refl _) (below_one w1 (.cells #[.int .u64 1] 22))
          have hg2 := hg1.below (below_one w1 (.cells #[.int .u64 1] 22))
          clear hg1 C1 ha1 HB
          go_wp2_with fail
          refine Calls.mono S2.out ?_
          rintro e w2 ⟨v2, rfl, B2, p2, n2, c2, f2, rfl, k2, k2', k2N, a2, r2, m2, v2⟩
          have V2 : Hid (val f2 n2 = 2 * val fr nr + 1) := by show _ = _; rw [v2, V1.out, val_one]; omega
          have C3 := Below.up C2 (Nat.le_refl _) B2
          have D3 := Below.up D2 (Nat.le_refl _) B2
          clear D2 D1
          have hg3 := hg2.below B2
          clear v2 B2 C2 hg2 S2
          have CM := refCompare_any p2 pm' n2 k c2 cm' f2 g w2 k2 k2' hm1 hm2 a2 hg3 r2 rg' (by omega) (by omega)
          have hov : 0 ≤ ord (val f2 n2) (val g k) := by have := @ord_neg_iff (val f2 n2) (val g k); have := V2.out; omega
          generalize ord (val f2 n2) (val g k) = o at *
          have HCM : Hid _ := CM
          clear CM
          go_wp2_with fail
          refine Calls.mono HCM.out ?_
          rintro e w3 ⟨rfl, B3⟩
          have C4 := Below.up C3 (Nat.le_refl _) B3
          have D4 := Below.up D3 (Nat.le_refl _) B3
          clear D3
          have L := refLess_any p2 pm' n2 k c2 cm' f2 g w3 k2 k2' hm1 hm2 (a2.below B3) (hg3.below B3) r2 rg' (by have := V2.out; omega) (by omega) (by omega)
          have HL : Hid _ := L
          have hg4 := hg3.below B3
          clear L B3 C3 hg3 HCM a2
          go_wp2_with fail
          refine Calls.mono HL.out ?_
          rintro e w4 ⟨v4, rfl, B4, p4, n4, c4, f4, rfl, k4, k4', k4N, a4, r4, m4, v4⟩
          have V4 : Hid (val f4 n4 = vr X (val g k) j) := by show _ = _; rw [v4, V2.out, ST.out, if_neg (by omega)]
          have C5 := Below.up C4 (Nat.le_refl _) B4
          have D5 := Below.up D4 (Nat.le_refl _) B4
          clear D4
          clear v4 B4 C4 HL
          go_wp2
          go_roundw
          case rel => exact ⟨j, by omega, by go_num, p4, n4, c4, f4, rfl, k4, k4', a4, r4, m4, V4.out, C5, D5⟩
          case measure => simp [intOf]
      · rw [hc] at ST
        by_cases hlt : 2 * val fr nr + 0 < val g k
        · have HLT : Hid _ := hlt
          go_wp2_with fail
          refine Calls.mono S1.out ?_
          rintro e w1 ⟨v1, rfl, B1, p1, n1, c1, f1, rfl, k1, k1', k1N, a1, r1, m1, v1⟩
          have V1 : Hid _ := v1
          have N1 : n1 ≤ 100000 := by omega
          have C1 := Below.up hbel (Nat.le_refl _) B1
          have D1 := Below.up hbel0 (Nat.le_refl _) B1
          have ha1 := ha.below C1
          have hg1 := hg'.below B1
          have HB : Hid _ := refBit_any pa na ca fa j w1 (by omega) hj64 (by omega) ha1 ra
          clear v1 B1 S1
          go_wp2_with fail
          refine Calls.mono HB.out ?_
          rintro e w1 ⟨rfl, rfl⟩
          rw [BV.out, hc]
          obtain ⟨w2, hw2⟩ : ∃ w2, w2 = w1 := ⟨_, rfl⟩
          obtain ⟨p2, n2, c2, f2, k2, k2', a2, r2, m2, V2, k2N, hfr⟩ : ∃ p2 n2 c2 f2, n2 ≤ c2 ∧ c2 ≤ 9223372036854775807 ∧ At w1 p2 n2 f2 ∧ Rg f2 n2 ∧ Nm f2 n2 ∧ Hid (val f2 n2 = 2 * val fr nr + 0) ∧ n2 ≤ 100000 ∧ Hid (Value.slice p1 n1 c1 = Value.slice p2 n2 c2) :=
            ⟨p1, n1, c1, f1, k1, k1', a1, r1, m1, by show _ = _; rw [V1.out]; omega, N1, rfl⟩
          rw [hfr.out]
          subst hw2
          have C3 := C1
          have D3 := D1
          clear D1
          have hg3 := hg1
          clear hg1 C1 ha1 HB hfr
          have CM := refCompare_any p2 pm' n2 k c2 cm' f2 g w2 k2 k2' hm1 hm2 a2 hg3 r2 rg' (by omega) (by omega)
          rw [ord_lt (by have := V2.out; omega)] at CM
          have HCM : Hid _ := CM
          clear CM
          go_wp2_with fail
          refine Calls.mono HCM.out ?_
          rintro e w3 ⟨rfl, B3⟩
          have C4 := Below.up C3 (Nat.le_refl _) B3
          have D4 := Below.up D3 (Nat.le_refl _) B3
          clear D3
          have a3 := a2.below B3
          have V4 : Hid (val f2 n2 = vr X (val g k) j) := by show _ = _; rw [V2.out, ST.out, if_pos (by omega)]
          clear B3 C3 hg3 HCM a2
          go_wp2
          go_roundw
          case rel => exact ⟨j, by omega, by go_num, p2, n2, c2, f2, rfl, k2, k2', a3, r2, m2, V4.out, C4, D4⟩
          case measure => simp [intOf]
        · go_wp2_with fail
          refine Calls.mono S1.out ?_
          rintro e w1 ⟨v1, rfl, B1, p1, n1, c1, f1, rfl, k1, k1', k1N, a1, r1, m1, v1⟩
          have V1 : Hid _ := v1
          have N1 : n1 ≤ 100000 := by omega
          have C1 := Below.up hbel (Nat.le_refl _) B1
          have D1 := Below.up hbel0 (Nat.le_refl _) B1
          have ha1 := ha.below C1
          have hg1 := hg'.below B1
          have HB : Hid _ := refBit_any pa na ca fa j w1 (by omega) hj64 (by omega) ha1 ra
          clear v1 B1 S1
          go_wp2_with fail
          refine Calls.mono HB.out ?_
          rintro e w1 ⟨rfl, rfl⟩
          rw [BV.out, hc]
          obtain ⟨w2, hw2⟩ : ∃ w2, w2 = w1 := ⟨_, rfl⟩
          obtain ⟨p2, n2, c2, f2, k2, k2', a2, r2, m2, V2, k2N, hfr⟩ : ∃ p2 n2 c2 f2, n2 ≤ c2 ∧ c2 ≤ 9223372036854775807 ∧ At w1 p2 n2 f2 ∧ Rg f2 n2 ∧ Nm f2 n2 ∧ Hid (val f2 n2 = 2 * val fr nr + 0) ∧ n2 ≤ 100000 ∧ Hid (Value.slice p1 n1 c1 = Value.slice p2 n2 c2) :=
            ⟨p1, n1, c1, f1, k1, k1', a1, r1, m1, by show _ = _; rw [V1.out]; omega, N1, rfl⟩
          rw [hfr.out]
          subst hw2
          have C3 := C1
          have D3 := D1
          clear D1
          have hg3 := hg1
          clear hg1 C1 ha1 HB hfr
          have CM := refCompare_any p2 pm' n2 k c2 cm' f2 g w2 k2 k2' hm1 hm2 a2 hg3 r2 rg' (by omega) (by omega)
          have hov : 0 ≤ ord (val f2 n2) (val g k) := by have := @ord_neg_iff (val f2 n2) (val g k); have := V2.out; omega
          generalize ord (val f2 n2) (val g k) = o at *
          have HCM : Hid _ := CM
          clear CM
          go_wp2_with fail
          refine Calls.mono HCM.out ?_
          rintro e w3 ⟨rfl, B3⟩
          have C4 := Below.up C3 (Nat.le_refl _) B3
          have D4 := Below.up D3 (Nat.le_refl _) B3
          clear D3
          have L := refLess_any p2 pm' n2 k c2 cm' f2 g w3 k2 k2' hm1 hm2 (a2.below B3) (hg3.below B3) r2 rg' (by have := V2.out; omega) (by omega) (by omega)
          have HL : Hid _ := L
          have hg4 := hg3.below B3
          clear L B3 C3 hg3 HCM a2
          go_wp2_with fail
          refine Calls.mono HL.out ?_
          rintro e w4 ⟨v4, rfl, B4, p4, n4, c4, f4, rfl, k4, k4', k4N, a4, r4, m4, v4⟩
          have V4 : Hid (val f4 n4 = vr X (val g k) j) := by show _ = _; rw [v4, V2.out, ST.out, if_neg (by omega)]
          have C5 := Below.up C4 (Nat.le_refl _) B4
          have D5 := Below.up D4 (Nat.le_refl _) B4
          clear D4
          clear v4 B4 C4 HL
          go_wp2
          go_roundw
          case rel => exact ⟨j, by omega, by go_num, p4, n4, c4, f4, rfl, k4, k4', a4, r4, m4, V4.out, C5, D5⟩
          case measure => simp [intOf]
end Go.Proofs.YtgdmjngajjoliaaDoor
